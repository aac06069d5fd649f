"""The refusals: one base, and one class for each reason straight under it."""


class SeatError(ValueError):
    """Any refusal."""


class NoShare(SeatError):
    """A share with a bottom of 0, or one over 0."""


class NoLower(SeatError):
    """A curve that no curve with one seat less is the same as."""


class NoMap(SeatError):
    """A map that can't be undone."""


class NoJoin(SeatError):
    """Curves that don't join to a path."""


class NoPlace(SeatError):
    """A place that a path doesn't have."""


class TooMany(SeatError):
    """More seats or more pairs than there may be."""


class NoText(SeatError):
    """What can't be read."""


class NoName(SeatError):
    """A name that no curve has."""
