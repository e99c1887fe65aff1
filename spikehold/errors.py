"""The errors that the program raises."""


class SpikeholdError(ValueError):
    """The base class of the errors; the place tells where the fault is."""

    def __init__(self, place):
        ValueError.__init__(self, f"at place {place}")
        self.place = place


class TooSmall(SpikeholdError):
    """A chip has too few places for the neurons of a network."""


class InvalidLine(SpikeholdError):
    """A line of a text has a fault."""
