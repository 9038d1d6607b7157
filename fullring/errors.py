"""The refusals."""


class RingError(ValueError):
    """Any refusal."""


class BadSize(RingError):
    """Signs and a size that do not go together, or are none."""


class BadWord(RingError):
    """A word or a piece that is none, pieces that are none, or a number of no word."""


class BadBook(RingError):
    """A book that is none."""


class BadRing(RingError):
    """A ring that is none."""


class NoWord(RingError):
    """A place that is none, or a word that does not stand on the ring."""


class NoRing(RingError):
    """A book that has no ring."""


class NoJoin(RingError):
    """Rings that can't be joined."""
