"""Ends: each holds many talks with the other one over one line each way."""

from oneline.errors import BadHead, NoDeed
from oneline.frames import Cutter, framed
from oneline.heads import is_head, read_head, told_head
from oneline.kinds import AWAY, BODY, CREDIT, HEAD, RANK, RESET
from oneline.refusals import credit_told, refusal_of
from oneline.shelves import Shelf
from oneline.talks import GREATEST_RANK, GREATEST_TALK, LINE_CREDIT, MOST_CREDIT, Credit, Talks, place_in_turn

LARGEST_BODY = 10


class End:
    """One end of a line each way.

    What goes out ahead of all bodies waits in urgent, as the numbers of whole frames. Bodies are
    counted as they go, so that talks can take turns.
    """

    def __init__(self, side):
        self.told = Shelf()
        self.heard = Shelf()
        self.broken = ""
        self.talks = Talks(side)
        self.line = Credit(LINE_CREDIT)
        self.cutter = Cutter()
        self.urgent = []
        self.bodies = 0

    def begin(self, head, last):
        """Begins a talk with a head; gives its number."""
        self.check_whole()
        if self.talks.gone_there:
            raise NoDeed("away")
        if self.talks.next_own > GREATEST_TALK:
            raise NoDeed("many")
        if not is_head(head):
            raise NoDeed("head")
        talk = self.talks.begin_own()
        self.tell_head(talk, head, last)
        return talk.number

    def answer(self, number, head, last):
        """Tells this end's head on a talk of the other one."""
        talk = self.open_talk(number)
        if talk.head_said:
            raise NoDeed("twice")
        if not is_head(head):
            raise NoDeed("head")
        self.tell_head(talk, head, last)

    def say(self, number, numbers, last):
        """Says numbers on a talk; they wait until there is credit for them."""
        talk = self.open_talk(number)
        if not talk.head_said:
            raise NoDeed("early")
        if talk.last_told:
            raise NoDeed("ended")
        talk.unsaid.extend(list(numbers))
        talk.last_told = last

    def grant(self, number, many):
        """Gives the other end credit, for a talk or (0) for the line."""
        if number == 0:
            self.check_whole()
            credit = self.line
        else:
            credit = self.heard_talk(number).credit
        if not 1 <= many <= MOST_CREDIT - credit.theirs:
            raise NoDeed("many")
        credit.theirs += many
        self.urgent.append(framed(CREDIT, 0, number, [many // 256, many % 256]))

    def reset(self, number, why):
        """Shuts a talk, and tells the other end why by a number."""
        talk = self.open_talk(number)
        if talk.last_told and talk.last_heard:
            raise NoDeed("ended")
        talk.shut_by_this_end()
        self.urgent.append(framed(RESET, 0, number, [why]))

    def ask_rank(self, number, rank):
        """Asks the other end to say its numbers on a talk by a rank."""
        self.heard_talk(number)
        if not 0 <= rank <= GREATEST_RANK:
            raise NoDeed("many")
        self.urgent.append(framed(RANK, 0, number, [rank]))

    def leave(self):
        """Leaves: what the other end begins from now on is passed over."""
        self.check_whole()
        if self.talks.gone_here:
            raise NoDeed("away")
        self.talks.gone_here = True
        self.urgent.append(framed(AWAY, 0, 0, [self.talks.greatest_heard]))

    def next_frame(self):
        """The numbers of the next frame, which goes out by that; none if nothing may go."""
        if self.broken:
            return []
        if self.urgent:
            return self.urgent.pop(0)
        ready = [talk for talk in list(self.talks.by_number.values()) if talk.is_ready(self.line)]
        if not ready:
            return []
        return self.tell_body(min(ready, key=place_in_turn))

    def tell_head(self, talk, head, last):
        """Puts a head behind what is to go out."""
        talk.head_said = True
        talk.last_told = last
        talk.last_gone = last
        self.urgent.append(framed(HEAD, int(last), talk.number, told_head(self.told, head)))

    def tell_body(self, talk):
        """The numbers of a talk's next body, which goes out."""
        many = min(len(talk.unsaid), talk.credit.mine, self.line.mine, LARGEST_BODY)
        numbers = talk.unsaid[:many]
        talk.unsaid = talk.unsaid[many:]
        talk.credit.mine -= many
        self.line.mine -= many
        talk.last_gone = talk.last_told and not talk.unsaid
        self.bodies += 1
        talk.turn = self.bodies
        return framed(BODY, int(talk.last_gone), talk.number, numbers)

    def hear(self, numbers):
        """What happens by numbers of the line, in order."""
        happened = []
        if self.broken:
            return happened
        frames = self.cutter.fed(numbers)
        for frame in frames:
            happened.extend(self.hear_frame(frame))
            if self.broken:
                return happened
        return happened

    def hear_frame(self, frame):
        """What happens by a frame; the end is broken behind one that is refused."""
        word = refusal_of(frame, self.talks, self.line)
        if not word and frame.kind == HEAD:
            try:
                return self.hear_head(frame)
            except BadHead:
                word = "head"
        if word:
            self.broken = word
            return [("broken", word)]
        return self.hear_rest(frame)

    def hear_head(self, frame):
        """What happens by a head."""
        # The other end's shelf was changed by this head even if its talk is shut here by now. It is read ahead of
        # all else, as one that is none is refused, and then begins no talk.
        head = read_head(self.heard, frame.numbers)
        if frame.talk in self.talks.by_number:
            word = "answer"
            talk = self.talks.by_number[frame.talk]
        else:
            word = "begun"
            talk = self.talks.begin_heard(frame.talk)
        if talk.shut_here:
            return []
        talk.head_heard = True
        return [(word, talk.number, head)] + hear_flag(frame, talk)

    def hear_rest(self, frame):
        """What happens by a frame that is no head."""
        if frame.kind == AWAY:
            self.talks.hear_leaving(frame.numbers[0])
            return [("away", frame.numbers[0])]
        if frame.talk == 0:
            return hear_credit(frame, self.line)
        talk = self.talks.by_number[frame.talk]
        if frame.kind == BODY:
            self.line.theirs -= len(frame.numbers)
        if frame.kind == RESET:
            talk.shut_by_other_end()
        # The line's credit is used up, and a reset is remembered, on a talk that is passed over, too.
        if talk.shut_here:
            return []
        return hear_on_talk(frame, talk)

    def left(self, number):
        """How many numbers may be said on a talk, or (0) on the line."""
        if number == 0:
            return self.line.mine
        return self.begun_talk(number).credit.mine

    def waiting(self, number):
        """How many numbers wait on a talk."""
        return len(self.begun_talk(number).unsaid)

    def check_whole(self):
        """Refuses a deed of an end that is broken."""
        if self.broken:
            raise NoDeed("broken")

    def begun_talk(self, number):
        """The talk of a number."""
        if number not in self.talks.by_number:
            raise NoDeed("talk")
        return self.talks.by_number[number]

    def open_talk(self, number):
        """The talk of a number, on which a deed may be done."""
        self.check_whole()
        talk = self.begun_talk(number)
        if talk.is_shut():
            raise NoDeed("shut")
        return talk

    def heard_talk(self, number):
        """The talk of a number, on which the other end may say more."""
        talk = self.open_talk(number)
        if talk.last_heard:
            raise NoDeed("ended")
        return talk


def hear_on_talk(frame, talk):
    """What happens by a frame on a talk that is not passed over; a head is heard elsewhere."""
    if frame.kind == BODY:
        return hear_body(frame, talk)
    if frame.kind == CREDIT:
        return hear_credit(frame, talk.credit)
    if frame.kind == RANK:
        talk.rank = frame.numbers[0]
        return [("rank", talk.number, frame.numbers[0])]
    return [("reset", talk.number, frame.numbers[0])]


def hear_body(frame, talk):
    """What happens by a body."""
    talk.credit.theirs -= len(frame.numbers)
    happened = []
    if frame.numbers:
        happened.append(("body", talk.number, frame.numbers))
    return happened + hear_flag(frame, talk)


def hear_flag(frame, talk):
    """What happens by the flag of a head or of a body."""
    if frame.flag == 0:
        return []
    talk.last_heard = True
    return [("ended", talk.number)]


def hear_credit(frame, credit):
    """What happens by a credit frame."""
    many = credit_told(frame)
    credit.mine += many
    return [("credit", frame.talk, many)]
