"""How the least price of a row rises with the price of one gap."""

from waitbolts.errors import TooWide
from waitbolts.locks import MOST_PRICE
from waitbolts.notes import Uses
from waitbolts.tables import Tower

MOST_SPANS = 40


class Curve:
    """The least prices of a row of wishes by the price x of a gap, so far as they are looked up.

    Each way's price rises straight with x, by as much as it goes along the
    gap. So the curve bends down only, and lies under each of these lines. Its
    points are tuples (price, fewest, most): how often least ways go along the
    gap there, which is how the curve goes on and how it came.
    """

    def __init__(self, lock, row, gap):
        self.first = row[0]
        self.gap = gap
        self.tower = Tower(lock, row[1:], Uses({gap: True}))
        self.rows = self.tower.rows_from(self.first)
        self.points = {}

    def is_met(self):
        """Whether some way meets the row."""
        return self.rows[-1][-1] is not None

    def point(self, x):
        """The point at x."""
        if x not in self.points:
            k, here, there = self.gap
            moves = [
                (word, one, other, x if (one, other) == (here, there) else price, note)
                for word, one, other, price, note in self.tower.levels[k].moves
            ]
            price, note = self.tower.entry_changed(self.first, self.rows, k, moves)
            self.points[x] = (price,) + note
        return self.points[x]

    def told(self):
        """A list of tuples (x, price, by), one for each stretch on which the price rises by as much for each x."""
        rises = {}
        work = [(1, MOST_PRICE)]
        while work:
            low, high = work.pop()
            if high - low == 1 or self.is_straight(low, high):
                rises[self.rise(low, high)] = True
                if len(rises) > MOST_SPANS:
                    raise TooWide()
                continue
            at = self.bend(low, high)
            work.extend([one for one in ((low, at), (at, at + 1), (at + 1, high)) if one[0] < one[1]])
        return self.stretches()

    def is_straight(self, low, high):
        """Whether the curve is straight between two x."""
        price, fewest, _ = self.point(low)
        return self.point(high)[0] == price + fewest * (high - low)

    def bend(self, low, high):
        """The last x ahead of where the line on from one x and the line up to another one cross."""
        price, fewest, _ = self.point(low)
        other, _, most = self.point(high)
        return (other - most * high - price + fewest * low) // (fewest - most)

    def rise(self, low, high):
        """By how much the price rises for each x, between two x where it rises evenly."""
        return (self.point(high)[0] - self.point(low)[0]) // (high - low)

    def stretches(self):
        """The tuples (x, price, by) that the points tell, between which the curve is straight."""
        xs = sorted(self.points)
        found = []
        for low, high in zip(xs, xs[1:]):
            by = self.rise(low, high)
            if not found or found[-1][2] != by:
                found.append((low, self.point(low)[0], by))
        return found
