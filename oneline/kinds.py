"""The kinds of frames."""

HEAD = 1
BODY = 2
CREDIT = 3
RESET = 4
RANK = 5
AWAY = 6
