"""The errors that the program's parts raise among themselves; the calls turn them into refusals."""


class WrongText(ValueError):
    """A text is not what it should be; which refusal that is, the call knows."""


class TooLong(ValueError):
    """There is more to answer than may be."""
