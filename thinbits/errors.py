"""The errors that the readers of texts raise."""


class WrongText(ValueError):
    """A text is not what it should be; which refusal that is, the call knows."""
