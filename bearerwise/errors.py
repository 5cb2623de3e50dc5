"""The refusals of the program (point [2])."""


class BearerError(ValueError):
    """What every refusal is; only its subclasses are raised."""

    def __init__(self):
        # A ValueError would take any arguments, but a refusal has none.
        pass


class NotValid(BearerError):
    """An argument is outside of its bounds."""


class Broken(BearerError):
    """A list of bytes is no piece of the form that is read."""
