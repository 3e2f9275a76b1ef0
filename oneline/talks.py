"""The talks of an end: which have begun, and how it stands with each of them."""

GREATEST_TALK = 250
TALK_CREDIT = 20
LINE_CREDIT = 60
MOST_CREDIT = 10000
FIRST_RANK = 4
GREATEST_RANK = 7


class Credit:
    """How many numbers this end may say (mine), and how many it gave that were not heard yet (theirs)."""

    def __init__(self, many):
        self.mine = many
        self.theirs = many


class Talk:
    """How it stands with a talk, as one end sees it.

    The last numbers are told of (last_told) by the deed, and gone (last_gone) with a frame.
    The turn is the place, from 1, of the talk's last body among all bodies that went; 0 if none went.
    A talk is shut here if this end reset it or passes it over from the beginning, and shut there if
    the other end reset it or left without having heard it.
    """

    def __init__(self, number):
        self.number = number
        self.credit = Credit(TALK_CREDIT)
        self.head_said = False
        self.head_heard = False
        self.unsaid = []
        self.last_told = False
        self.last_gone = False
        self.last_heard = False
        self.rank = FIRST_RANK
        self.turn = 0
        self.shut_here = False
        self.shut_there = False

    def is_shut(self):
        """Whether nothing more is said on the talk."""
        return self.shut_here or self.shut_there

    def is_ready(self, line):
        """Whether a body of the talk may go out, by the credit of the talk and of the line."""
        if self.is_shut() or self.last_gone:
            return False
        if not self.unsaid:
            return self.last_told
        return self.credit.mine > 0 and line.mine > 0

    def shut_by_this_end(self):
        """Shuts the talk, and drops what waits on it."""
        self.shut_here = True
        self.unsaid = []

    def shut_by_other_end(self):
        """Shuts the talk, and drops what waits on it."""
        self.shut_there = True
        self.unsaid = []


class Talks:
    """The talks that have begun, by their numbers, and which may begin still.

    The greatest one that was heard is of the other end, and 0 for none. An end that has left is
    gone here, if it is this one, or gone there.
    """

    def __init__(self, side):
        self.side = side
        self.by_number = {}
        self.next_own = side + 1
        self.greatest_heard = 0
        self.gone_here = False
        self.gone_there = False

    def begin_own(self):
        """Begins the next talk of this end."""
        talk = Talk(self.next_own)
        self.by_number[talk.number] = talk
        self.next_own += 2
        return talk

    def begin_heard(self, number):
        """Begins a talk of the other end."""
        talk = Talk(number)
        # What this end hears only after it left is greater than all that its leaving told of.
        if self.gone_here:
            talk.shut_by_this_end()
        self.by_number[number] = talk
        self.greatest_heard = number
        return talk

    def may_begin_heard(self, number):
        """Whether the other end may begin a talk of this number."""
        return self.greatest_heard < number <= GREATEST_TALK and side_of(number) != self.side

    def is_own(self, number):
        """Whether this end began a talk of this number."""
        return number in self.by_number and side_of(number) == self.side

    def hear_leaving(self, greatest):
        """Shuts the talks of this end behind the greatest one that the other end heard."""
        self.gone_there = True
        for talk in list(self.by_number.values()):
            if talk.number > greatest and self.is_own(talk.number):
                talk.shut_by_other_end()


def side_of(number):
    """The side that begins the talk of a number."""
    return (number + 1) % 2


def place_in_turn(talk):
    """The place of a talk among those of which a body may go: the least one goes."""
    return talk.rank, talk.turn, talk.number
