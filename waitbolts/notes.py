"""What is noted of least ways beside their price.

All notes of one table are of one kind. A kind tells the note of the way
without steps, that of a single step, that of ways one behind the other, and
that of ways of two sorts together.
"""


class NoNotes:
    """Nothing is noted."""

    def standing(self):
        """The note of the way without steps."""
        return None

    def stepping(self, k, here, there, way):
        """The note of one step of bolt k along a way of its gap from here to there."""
        return None

    def behind(self, first, second):
        """The note of ways of the first sort with ways of the second behind them."""
        return None

    def either(self, first, second):
        """The note of the ways of both sorts together."""
        return None


class Counts:
    """How many ways there are, or most, where there are more."""

    def __init__(self, most):
        self.most = most

    def standing(self):
        """The note of the way without steps."""
        return 1

    def stepping(self, k, here, there, way):
        """The note of one step of bolt k along a way of its gap from here to there."""
        return 1

    def behind(self, first, second):
        """The note of ways of the first sort with ways of the second behind them."""
        # Cut at once, for there may be more ways than a number can be written for.
        return min(first * second, self.most)

    def either(self, first, second):
        """The note of the ways of both sorts together."""
        return min(first + second, self.most)


class Firsts:
    """The steps (k, to) with which ways begin, as a rising tuple; () where the ways have no steps."""

    def standing(self):
        """The note of the way without steps."""
        return ()

    def stepping(self, k, here, there, way):
        """The note of one step of bolt k along a way of its gap from here to there."""
        return ((k, there),)

    def behind(self, first, second):
        """The note of ways of the first sort with ways of the second behind them."""
        return first or second

    def either(self, first, second):
        """The note of the ways of both sorts together."""
        if first == second:
            return first
        return tuple(sorted(set(first + second)))


class Uses:
    """A tuple (fewest, most): how many steps ways do along some gaps (k, from, to), a dict."""

    def __init__(self, gaps):
        self.gaps = gaps

    def standing(self):
        """The note of the way without steps."""
        return (0, 0)

    def stepping(self, k, here, there, way):
        """The note of one step of bolt k along a way of its gap from here to there."""
        return (1, 1) if (k, here, there) in self.gaps else (0, 0)

    def behind(self, first, second):
        """The note of ways of the first sort with ways of the second behind them."""
        return first[0] + second[0], first[1] + second[1]

    def either(self, first, second):
        """The note of the ways of both sorts together."""
        return min(first[0], second[0]), max(first[1], second[1])


class Musts:
    """Which of some ways of gaps (k, from, to, way) all ways go along, as a number with a bit for each.

    The ways of gaps are a dict to the numbers of their bits.
    """

    def __init__(self, bits):
        self.bits = bits

    def standing(self):
        """The note of the way without steps."""
        return 0

    def stepping(self, k, here, there, way):
        """The note of one step of bolt k along a way of its gap from here to there."""
        return 1 << self.bits[(k, here, there, way)]

    def behind(self, first, second):
        """The note of ways of the first sort with ways of the second behind them."""
        return first | second

    def either(self, first, second):
        """The note of the ways of both sorts together."""
        return first & second
