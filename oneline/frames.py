"""Frames, and how the numbers of a line are cut into them."""

# Size, kind, flag and talk stand ahead of the numbers that a frame carries.
AHEAD = 4


class Frame:
    """A frame as it was cut from a line."""

    def __init__(self, kind, flag, talk, numbers):
        self.kind = kind
        self.flag = flag
        self.talk = talk
        self.numbers = list(numbers)


class Cutter:
    """Cuts the numbers of a line, which come in pieces of any length, into frames."""

    def __init__(self):
        self.rest = []

    def fed(self, numbers):
        """Takes more numbers; gives the frames that are whole by them, in order."""
        self.rest.extend(numbers)
        frames = []
        at = 0
        behind = frame_end(self.rest, at)
        while behind <= len(self.rest):
            frames.append(frame_between(self.rest, at, behind))
            at = behind
            behind = frame_end(self.rest, at)
        self.rest = self.rest[at:]
        return frames


def framed(kind, flag, talk, numbers):
    """The numbers of a frame."""
    return [len(numbers), kind, flag, talk] + list(numbers)


def frame_end(numbers, at):
    """The place behind the frame that begins at a place, as far as its size is known."""
    if at >= len(numbers):
        return at + AHEAD
    # A size below 0 would lead back, and the cutting would never end.
    return at + AHEAD + max(0, numbers[at])


def frame_between(numbers, at, behind):
    """The frame that stands between two places of a list."""
    return Frame(numbers[at + 1], numbers[at + 2], numbers[at + 3], numbers[at + AHEAD:behind])
