"""Papers that bar what is cheaper than the least price of a row."""

from waitbolts.notes import NoNotes
from waitbolts.tables import Tower, are_one

FIRST = 0
STOP = 1
HOP = 2


class Maker:
    """The paper of a row that is being made: each of its rows says the least price of its wishes.

    A start is a tuple (kind, number): the row's first wish, a stop of a bolt,
    or the one behind a hop of it. A claim is a tuple (k, start, number of an
    end) of a row that has to be there, so that others keep.
    """

    def __init__(self, lock, row):
        self.row = row
        self.tower = Tower(lock, row[1:], NoNotes())
        self.rows = self.tower.rows_from(row[0])
        self.hop_entries = {}
        self.paper = {}
        self.work = []
        self.wanted = {}

    def made(self):
        """The paper."""
        self.want((len(self.rows) - 2, (FIRST, 0), 0))
        while self.work:
            self.put(self.work.pop())
        return self.paper

    def want(self, claim):
        """Have a row put into the paper, unless it is there already or says 0."""
        if self.says(claim) != 0 and claim not in self.wanted:
            self.wanted[claim] = True
            self.work.append(claim)

    def says(self, claim):
        """The least price that a row says, None for never; 0 of a row of no bolts."""
        k, start, number = claim
        if k < 0:
            return 0
        entry = self.entries(k, start)[number]
        return None if entry is None else entry[0]

    def entries(self, k, start):
        """The entries of bolt k's level from a start."""
        kind, number = start
        if kind == FIRST:
            return self.rows[k + 1]
        if kind == STOP:
            return self.tower.levels[k + 1].below[number]
        if (k, number) not in self.hop_entries:
            level = self.tower.levels[k]
            self.hop_entries[(k, number)] = level.entries(level.behind(number))
        return self.hop_entries[(k, number)]

    def put(self, claim):
        """Put a row into the paper, and want those by which it keeps."""
        k, start, number = claim
        level = self.tower.levels[k]
        wish, ahead, place, layer = self.start(k, start)
        column, last, upto = level.ends[number]
        between = self.row[1 + layer:1 + upto]
        row = (wish,) + tuple([one[:k + 1] for one in between]) + (self.end(k, number),)
        price = self.says(claim)
        self.paper[row] = price
        places = [place] + [one[k] for one in between] + [last]
        if are_one(places):
            self.want((k - 1, ahead, column))
            return
        here = [one for one in places if one is not None][0]
        for hop in level.nexts[here][layer]:
            if hop % level.layers <= upto:
                self.want_by(price, (k - 1, ahead, level.hops[hop][0]), (k, (HOP, hop), number))

    def want_by(self, price, first, second):
        """Want, of two rows between which a step is done, as many as say a price together."""
        one, other = self.says(first), self.says(second)
        if one is None or (price is not None and one >= price):
            self.want(first)
        elif other is None or (price is not None and other >= price):
            self.want(second)
        else:
            self.want(first)
            self.want(second)

    def start(self, k, start):
        """A tuple (wish, start of the bolts below, place, layer) of a start at bolt k."""
        kind, number = start
        if kind == FIRST:
            return self.row[0][:k + 1], start, self.row[0][k], 0
        layers = self.tower.layers
        if kind == STOP:
            below, place, layer = self.tower.stops[k][number]
            return self.tower.words[k + 1][number // layers], (STOP, below), place, layer
        column, _, there, _, _ = self.tower.levels[k].hops[number]
        return self.tower.words[k][column // layers] + (there,), (STOP, column), there, number % layers

    def end(self, k, number):
        """The wish of an end at bolt k."""
        if number == len(self.tower.stops[k]):
            return self.row[-1][:k + 1]
        return self.tower.words[k + 1][number // self.tower.layers]


def paper_of(lock, row):
    """A paper that bars what is cheaper than the least price of a row, or all, where no way meets it."""
    return Maker(lock, row).made()
