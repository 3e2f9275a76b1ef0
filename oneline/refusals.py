"""Which frames are refused on the line, and by which word."""

from oneline.kinds import AWAY, BODY, CREDIT, HEAD, RANK
from oneline.talks import GREATEST_RANK, MOST_CREDIT

MOST_CARRIED = 250


def refusal_of(frame, talks, line):
    """The first word that fits a frame, or "" for none; whether a head's numbers tell one is not asked here."""
    return shape_word(frame) or number_word(frame, talks) or away_word(frame, talks) or talk_word(frame, talks, line)


def shape_word(frame):
    """The word for what is wrong with a frame by itself."""
    if not HEAD <= frame.kind <= AWAY:
        return "kind"
    if not is_size(frame.kind, len(frame.numbers)):
        return "size"
    return "" if is_flag(frame.kind, frame.flag) else "flag"


def is_size(kind, size):
    """Whether a frame of a kind may carry so many numbers."""
    if kind in (HEAD, BODY):
        return size <= MOST_CARRIED
    if kind == CREDIT:
        return size == 2
    return size == 1


def is_flag(kind, flag):
    """Whether a frame of a kind may have a flag."""
    return flag == 0 or (flag == 1 and kind in (HEAD, BODY))


def number_word(frame, talks):
    """The word for a talk on which there is no such frame, or for a leaving that tells a wrong one."""
    if frame.kind == AWAY:
        greatest = frame.numbers[0]
        fits = frame.talk == 0 and (greatest == 0 or talks.is_own(greatest))
    elif frame.kind == CREDIT and frame.talk == 0:
        fits = True
    elif frame.kind == HEAD and talks.may_begin_heard(frame.talk):
        fits = True
    else:
        fits = frame.talk in talks.by_number
    return "" if fits else "number"


def away_word(frame, talks):
    """The word for a second leaving."""
    return "away" if frame.kind == AWAY and talks.gone_there else ""


def talk_word(frame, talks, line):
    """The word for what is wrong with a frame by what happened on its talk so far, or on the line."""
    if frame.talk not in talks.by_number:
        # The line's credit, a leaving, or a head that begins a talk.
        return credit_word(frame, line)
    talk = talks.by_number[frame.talk]
    if talk.shut_there:
        return "shut"
    if frame.kind == BODY:
        return body_word(frame, talk, line)
    if talk.shut_here:
        return ""
    if frame.kind == HEAD and talk.head_heard:
        return "twice"
    if frame.kind == RANK and frame.numbers[0] > GREATEST_RANK:
        return "many"
    return credit_word(frame, talk.credit)


def body_word(frame, talk, line):
    """The word for what is wrong with a body."""
    size = len(frame.numbers)
    if not talk.shut_here:
        if not talk.head_heard:
            return "early"
        if talk.last_heard:
            return "ended"
        if size > talk.credit.theirs:
            return "credit"
    return "credit" if size > line.theirs else ""


def credit_word(frame, credit):
    """The word for a credit frame that gives nothing or too much."""
    if frame.kind == CREDIT and not 1 <= credit_told(frame) <= MOST_CREDIT - credit.mine:
        return "many"
    return ""


def credit_told(frame):
    """How much a credit frame gives."""
    return 256 * frame.numbers[0] + frame.numbers[1]
