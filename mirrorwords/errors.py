"""The refusals of the program, one class for each kind."""


class MirrorError(ValueError):
    """Any refusal."""


class BadText(MirrorError):
    """What was handed in is no text."""


class BadLetter(MirrorError):
    """What was handed in is no letter a to z."""


class BadWord(MirrorError):
    """What was handed in is no mirror word."""


class BadArms(MirrorError):
    """What was handed in is no list of arms."""


class NoText(MirrorError):
    """No text has these arms."""


class NoPlace(MirrorError):
    """The text has no such place."""


class Full(MirrorError):
    """The text has as many letters as a text may have."""
