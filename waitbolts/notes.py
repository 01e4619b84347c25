"""What is noted of least ways beside their price.

All notes of one table are of one kind. A kind tells the note of the way
without steps, that of a single step, that of ways one behind the other, and
that of ways of two sorts together.
"""


class NoNotes:
    """Nothing is noted."""

    def standing(self):
        """The note of the way without steps."""
        return None

    def stepping(self, k, to):
        """The note of one step."""
        return None

    def behind(self, first, second):
        """The note of ways of the first sort with ways of the second behind them."""
        return None

    def either(self, first, second):
        """The note of the ways of both sorts together."""
        return None


class Counts:
    """How many ways there are, or most, where there are more."""

    def __init__(self, most):
        self.most = most

    def standing(self):
        """The note of the way without steps."""
        return 1

    def stepping(self, k, to):
        """The note of one step."""
        return 1

    def behind(self, first, second):
        """The note of ways of the first sort with ways of the second behind them."""
        # Cut at once, for there may be more ways than a number can be written for.
        return min(first * second, self.most)

    def either(self, first, second):
        """The note of the ways of both sorts together."""
        return min(first + second, self.most)


class Firsts:
    """The steps (k, to) with which ways begin, as a rising tuple; () where the ways have no steps."""

    def standing(self):
        """The note of the way without steps."""
        return ()

    def stepping(self, k, to):
        """The note of one step."""
        return ((k, to),)

    def behind(self, first, second):
        """The note of ways of the first sort with ways of the second behind them."""
        return first or second

    def either(self, first, second):
        """The note of the ways of both sorts together."""
        if first == second:
            return first
        return tuple(sorted(set(first + second)))
