"""The exceptions with which functions refuse what they are asked."""


class PageError(ValueError):
    """What all refusals of this package have in common."""

    def __init__(self):
        ValueError.__init__(self)


class NotValid(PageError):
    """An argument is outside of its bounds."""


class Broken(PageError):
    """A state that is checked does not fit together."""
