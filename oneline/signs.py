"""Texts, told by their length and the numbers of their signs."""

from oneline.errors import BadHead

# A sign's number is its place here: ASCII from the blank to the tilde, and no percent sign between `$` and `&`.
SIGNS = " !\"#$&'()*+,-./0123456789:;<=>?@ABCDEFGHIJKLMNOPQRSTUVWXYZ[\\]^_`abcdefghijklmnopqrstuvwxyz{|}~"

LONGEST_TEXT = 20


def text_numbers(text):
    """The numbers that tell a text."""
    return [len(text)] + [SIGNS.index(sign) for sign in text]


def text_at(numbers, at):
    """The text that is told at a place of a list, and the place behind it."""
    size = text_size(numbers, at)
    first = at + 1
    behind = first + size
    if behind > len(numbers):
        raise BadHead("the numbers end within a text")
    text = "".join([sign_of(number) for number in numbers[first:behind]])
    return text, behind


def text_size(numbers, at):
    """How many signs the text has that is told at a place of a list."""
    # A place or a number below 0 would count from the end of a list, so both bounds are looked at.
    if not 0 <= at < len(numbers):
        raise BadHead("the numbers end ahead of a text")
    if not 0 <= numbers[at] <= LONGEST_TEXT:
        raise BadHead("a text is too long")
    return numbers[at]


def sign_of(number):
    """The sign that has a number."""
    if not 0 <= number < len(SIGNS):
        raise BadHead("a number is no sign's")
    return SIGNS[number]
