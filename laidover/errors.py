"""The refusals of the package."""


class OverError(ValueError):
    """Any refusal of the package."""


class BadNumber(OverError):
    """A number or a choice that does not fit."""


class BadPoint(OverError):
    """What is no point."""


class BadMotion(OverError):
    """What is no motion, or a turn that is none."""


class BadHeap(OverError):
    """What is no heap."""


class BadPairs(OverError):
    """Lists that are no partners."""


class BadName(OverError):
    """What is no name, or names nothing."""


class BadText(OverError):
    """A text that is not written as it must be."""


class NoThing(OverError):
    """What is asked for does not exist."""
