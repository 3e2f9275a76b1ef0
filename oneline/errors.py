"""The refusals of the program."""


class LineError(ValueError):
    """Any refusal."""


class NoDeed(LineError):
    """A deed that is refused; why is the word of the first reason that fits it."""

    def __init__(self, why):
        LineError.__init__(self, why)
        self.why = why


class BadHead(LineError):
    """Numbers that tell no head, or no text of one."""
