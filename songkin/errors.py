"""The errors of the program: one for each refusal, and one for a call that isn't known."""


class NotAsTold(Exception):
    """A cost or a tune is outside what costs and tunes may be."""


class NoSuchTune(Exception):
    """No tune of the family has this number."""


class NoRoom(Exception):
    """The family has as many tunes as it may have."""


class NoWay(Exception):
    """A row of steps is no way from the one tune to the other."""


class UnknownCall(Exception):
    """No call has this number."""
