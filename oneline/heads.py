"""Heads: lists of pairs, told shorter by a shelf that both ends keep in step."""

from oneline.errors import BadHead
from oneline.signs import LONGEST_TEXT, SIGNS, text_at, text_numbers

MOST_PAIRS = 6
LONGEST_NAME = 8

# The ways to tell a pair: by its place, by its name's place and its value, by both texts.
WHOLE = 0
NAMED = 1
FULL = 2


def is_head(head):
    """Whether a list of pairs is a head that may be told."""
    return len(head) <= MOST_PAIRS and all([is_pair(pair) for pair in head])


def is_pair(pair):
    """Whether a tuple is a name and a value."""
    return len(pair) == 2 and is_name(pair[0]) and is_text(pair[1])


def is_name(text):
    """Whether a text may be a name."""
    return 1 <= len(text) <= LONGEST_NAME and is_text(text)


def is_text(text):
    """Whether a text is short enough and has no other signs than those that have numbers."""
    return len(text) <= LONGEST_TEXT and all([sign in SIGNS for sign in text])


def told_head(shelf, head):
    """The numbers that tell a head; the shelf is changed as it is told."""
    numbers = []
    for pair in head:
        numbers.extend(told_pair(shelf, pair))
    return numbers


def told_pair(shelf, pair):
    """The numbers that tell a pair by the shelf as it is now."""
    if pair in shelf.pairs:
        return [WHOLE, shelf.pairs.index(pair)]
    name, value = pair
    names = [kept[0] for kept in shelf.pairs]
    if name in names:
        numbers = [NAMED, names.index(name)]
    else:
        numbers = [FULL] + text_numbers(name)
    shelf.put(pair)
    return numbers + text_numbers(value)


def read_head(shelf, numbers):
    """The head that numbers tell; the shelf is changed as it is read."""
    head = []
    at = 0
    while at < len(numbers):
        if len(head) == MOST_PAIRS:
            raise BadHead("there are too many pairs")
        pair, at = pair_at(shelf, numbers, at)
        head.append(pair)
    return head


def pair_at(shelf, numbers, at):
    """The pair that is told at a place of a list, and the place behind it."""
    way = numbers[at]
    if way == WHOLE:
        return kept_pair(shelf, numbers, at + 1), at + 2
    if way == NAMED:
        name = kept_pair(shelf, numbers, at + 1)[0]
        behind = at + 2
    elif way == FULL:
        name, behind = name_at(numbers, at + 1)
    else:
        raise BadHead("there is no such way to tell a pair")
    value, behind = text_at(numbers, behind)
    pair = (name, value)
    # Even what could have been told shorter is put: the end that tells a head decides how it is told.
    shelf.put(pair)
    return pair, behind


def kept_pair(shelf, numbers, at):
    """The pair of the shelf whose place is told at a place of a list."""
    if at >= len(numbers):
        raise BadHead("the numbers end ahead of a place")
    place = numbers[at]
    # A place below 0 would count from the end of the shelf.
    if not 0 <= place < len(shelf.pairs):
        raise BadHead("there is no such place on the shelf")
    return shelf.pairs[place]


def name_at(numbers, at):
    """The name that is told at a place of a list, and the place behind it."""
    name, behind = text_at(numbers, at)
    if not 1 <= len(name) <= LONGEST_NAME:
        raise BadHead("a name is empty or too long")
    return name, behind
