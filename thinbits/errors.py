"""The errors that the program's parts raise among themselves; the calls turn them into refusals."""


class WrongText(ValueError):
    """A text is not what it should be; which refusal that is, the call knows."""


class NoKind(ValueError):
    """There is no schema, or no such kind in it."""


class NoValue(ValueError):
    """There is no value of the kind that is asked for."""


class TooLong(ValueError):
    """There is more to answer than may be."""
