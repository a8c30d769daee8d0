"""The refusals of the program, one class for each."""

# The errors' words leave out the numbers that were handed in: Python refuses
# to write out very long ones.


class RowError(ValueError):
    """Any refusal."""


class NoQuotient(RowError):
    """A division by nought; top is the number or fraction that was to be divided."""

    def __init__(self, top):
        RowError.__init__(self, "a division by nought")
        self.top = top


class NoName(RowError):
    """A name for which a point has nothing."""

    def __init__(self, name):
        RowError.__init__(self, f"the point has nothing for {name}")
        self.name = name


class TooMany(RowError):
    """A saying with more than four cases, or with a case of more than three rows."""

    def __init__(self, saying):
        RowError.__init__(self, "the saying has more than four cases, or one of more than three rows")
        self.saying = saying
