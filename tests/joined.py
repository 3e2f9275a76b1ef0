"""What the tests of ends share: two ends that are joined, frames made by hand, and looks at an end."""

import copy
import unittest

from oneline.ends import End
from oneline.errors import NoDeed
from oneline.heads import told_head
from oneline.shelves import Shelf

HEAD, BODY, CREDIT, RESET, RANK, AWAY = 1, 2, 3, 4, 5, 6


def shelf_of(*pairs):
    """A shelf on which pairs were put, the last one last."""
    shelf = Shelf()
    for pair in pairs:
        shelf.put(pair)
    return shelf


def frame(kind, flag, talk, *numbers):
    """A frame's numbers, made without the program."""
    return [len(numbers), kind, flag, talk, *numbers]


def head_frame(talk, head=(), flag=0):
    """A head's frame, told by an empty shelf."""
    return frame(HEAD, flag, talk, *told_head(Shelf(), list(head)))


def body_frame(talk, many, flag=0):
    """A body's frame that carries so many numbers."""
    return frame(BODY, flag, talk, *([7] * many))


def carried(teller, hearer):
    """Carries all that goes out from one end to the other; what happens there."""
    happened = []
    numbers = teller.next_frame()
    while numbers:
        happened.extend(hearer.hear(numbers))
        numbers = teller.next_frame()
    return happened


def settled(one, other):
    """Carries all that goes out both ways; what happens at the first end, and at the other one."""
    return carried(other, one), carried(one, other)


def frames_of(end):
    """All frames that would go out now; the end stays as it is."""
    end = copy.deepcopy(end)
    frames = []
    numbers = end.next_frame()
    while numbers:
        frames.append(numbers)
        numbers = end.next_frame()
    return frames


def told_or_why(question, number):
    try:
        return question(number)
    except NoDeed as refusal:
        return refusal.why


def picture(end):
    """All that an end tells of itself, and what it would send."""
    return (end.broken, list(end.told.pairs), list(end.heard.pairs),
            [told_or_why(end.left, number) for number in range(-1, 253)],
            [told_or_why(end.waiting, number) for number in range(-1, 253)],
            frames_of(end))


class EndTest(unittest.TestCase):

    def assertRefused(self, end, why, deed, *values):
        """The deed is refused by the word, and changes nothing."""
        before = picture(end)
        with self.assertRaises(NoDeed) as caught:
            getattr(end, deed)(*values)
        self.assertEqual(caught.exception.why, why)
        self.assertEqual(picture(end), before)

    def assertBreaks(self, end, numbers, word):
        """The frame is refused by the word, alone, and the end is broken behind it."""
        self.assertEqual(end.hear(numbers), [("broken", word)])
        self.assertEqual(end.broken, word)

    def assertInStep(self, one, other):
        self.assertEqual(one.told.pairs, other.heard.pairs)
        self.assertEqual(other.told.pairs, one.heard.pairs)


def both_ends():
    return End(0), End(1)


def begun(head=(), last=False):
    """Two ends, of which side 0 has begun talk 1; the other one has heard of it."""
    one, other = both_ends()
    one.begin(list(head), last)
    carried(one, other)
    return one, other


def answered(last=False, answer_last=False):
    """Two ends, of which side 0 has begun talk 1 and side 1 has answered, heard by both."""
    one, other = begun(last=last)
    other.answer(1, [], answer_last)
    carried(other, one)
    return one, other


def broken_end(side=0):
    end = End(side)
    end.hear(frame(9, 0, 0))
    return end
