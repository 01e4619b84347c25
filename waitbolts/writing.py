"""Least ways written as books."""

from waitbolts.binding import Binder
from waitbolts.notes import NoNotes
from waitbolts.tables import Tower, are_one


class Writer:
    """What is written of the least ways that meet a row of wishes.

    A leg is a tuple (begin, end, entries) of a least way of the first bolts,
    of no entry or one; row is the number of the stop that it begins at, None
    for the row's first wish, column that of its end.
    """

    def __init__(self, lock, row):
        self.first = row[0]
        self.tower = Tower(lock, row[1:], NoNotes())
        self.rows = self.tower.rows_from(self.first)
        self.legs = {}
        self.binder = Binder()

    def book(self):
        """The book of a least way that meets the row; None where none does."""
        if self.rows[-1][-1] is None:
            return None
        begin, _, entries = self.leg(len(self.first), None, len(self.rows[-1]) - 1)
        return self.binder.bound(begin, entries)

    def leg(self, many, row, column):
        """The leg of so many bolts from a start to an end."""
        if many == 0:
            return (), (), ()
        key = (many, row, column)
        if key not in self.legs:
            self.legs[key] = self.made(many - 1, row, column)
        return self.legs[key]

    def made(self, k, row, column):
        """The leg of the bolts up to bolt k, made of legs of those below it."""
        level = self.tower.levels[k]
        at, place, layer = (None, self.first[k], 0) if row is None else self.tower.stops[k][row]
        to, last, upto = level.ends[column]
        places = [place, last] + level.asked[layer:upto]
        if not are_one(places):
            below = self.rows[k] if row is None else level.below[at]
            return self.moving(k, at, level.way((below, place, layer), column), to)
        begin, behind, entries = self.leg(k, at, to)
        # A bolt that nothing is wanted of may stand anywhere.
        stays = ([one for one in places if one is not None] + [0])[0]
        return begin + (stays,), behind + (stays,), entries

    def moving(self, k, at, way, to):
        """The leg of the bolts up to bolt k with these hops of bolt k between a row and a column below."""
        hops = [self.tower.levels[k].hops[number] for number in way]
        legs = []
        for column in [hop[0] for hop in hops] + [to]:
            legs.append(self.leg(k, at, column))
            at = column
        entries = list(legs[0][2])
        for hop, leg in zip(hops, legs[1:]):
            entries.append(("step", k, hop[2]))
            entries.extend(leg[2])
        begin, behind = legs[0][0] + (hops[0][1],), legs[-1][1] + (hops[-1][2],)
        # A single step stands for itself.
        if len(entries) > 1:
            entries = [self.binder.put(begin, behind, entries)]
        return begin, behind, tuple(entries)


def written(lock, row):
    """The book of a least way that meets a row of wishes; None where none does."""
    return Writer(lock, row).book()
