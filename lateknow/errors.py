"""The refusals of the program."""


class LateError(ValueError):
    """Any refusal."""

    def __init__(self, row=None):
        self.row = row


class NoState(LateError):
    """What was handed in is no start."""


class NoWish(LateError):
    """What was handed in is no wish of the world."""


class NoText(LateError):
    """What was handed in is no text of a game; its row tells the first line that is none."""


class TooGreat(LateError):
    """There are more states than are walked."""
