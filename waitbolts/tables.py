"""Tables of the least ways that meet a row of wishes, bolt by bolt from the lowest one up.

The table of the lowest m bolts tells, between all words of m places that
bolts above ask for, the entry of the least ways: a tuple (price, note), or
None where no way leads. Beside the words stands the row's last wish, as one
more end, cut to m places; the rows from the first wish are told for
themselves. The wishes between are met on the way: a layer is how many of them
are met so far. So a start or an end is a word together with a layer.
"""

from heapq import heappop, heappush
from waitbolts.words import words_of


class Level:
    """One bolt upon the table of those below it.

    A start is a tuple (row of entries below, place of this bolt or None,
    layer), an end is one with a column of the table below in the place of the
    row. A move is a tuple (number of the word below, from, to, price, note of
    the step), a hop a tuple (number of a move, layer in which it is done);
    asked has the places, or None, that the wishes between want of this bolt.
    """

    def __init__(self, below, many, moves, asked, notes):
        self.below = below
        self.many = many
        self.moves = moves
        self.asked = asked
        self.notes = notes
        self.layers = len(asked) + 1
        self.onward = [[layers_from(asked, place, layer) for layer in range(self.layers)] for place in range(many)]

    def entries(self, start, ends):
        """The entries from a start to all ends."""
        known = self.moved(start)
        return [self.entry(start, end, known) for end in ends]

    def entry(self, start, end, known):
        """The entry from a start to an end, known what moved tells of the start."""
        below, _, layer = start
        column, _, upto = end
        if upto < layer:
            return None
        # Where this bolt can stay, no least way moves it.
        if are_one(self.wanted(start, end)):
            return below[column]
        found = None
        for hop in known:
            found = self.better(found, self.joined(known[hop], self.rested(self.behind(hop), end)))
        return found

    def wanted(self, start, end):
        """The places, or None, that a start, the wishes that are met behind it and an end want of this bolt."""
        return [start[1]] + self.asked[start[2]:end[2]] + [end[1]]

    def rested(self, start, end):
        """The entry below from a start to an end, one of which has a place, where this bolt stays at it."""
        below, place, layer = start
        column, last, upto = end
        at = last if place is None else place
        if last not in (None, at) or upto not in self.onward[at][layer]:
            return None
        return below[column]

    def behind(self, hop):
        """The start from behind a hop."""
        number, met = hop
        return self.below[self.column_of(hop)], self.moves[number][2], met

    def column_of(self, hop):
        """The column of the table below that a hop is done at; it is the row from behind it, too."""
        return self.moves[hop[0]][0] * self.layers + hop[1]

    def moved(self, start):
        """A dict from all hops that can be come to from a start to the entries of the least ways that end with them."""
        below, place, layer = start
        best = {}
        queue = []
        for at in range(self.many):
            if place in (None, at):
                self.move_on(best, queue, (0, self.notes.standing()), (below, at, layer))
        while queue:
            price, number, met = heappop(queue)
            hop = (number, met)
            if price == best[hop][0]:
                self.move_on(best, queue, best[hop], self.behind(hop))
        return best

    def move_on(self, best, queue, entry, start):
        """Put into best and the queue what the next moves come to, behind the ways that led to a start."""
        below, place, layer = start
        for number, (_, here, _, price, note) in enumerate(self.moves):
            if here != place:
                continue
            for met in self.onward[place][layer]:
                hop = (number, met)
                led = self.joined(entry, below[self.column_of(hop)])
                if led is not None:
                    led = self.joined(led, (price, note))
                    old = best.get(hop)
                    best[hop] = self.better(old, led)
                    if old is None or led[0] < old[0]:
                        heappush(queue, (led[0], number, met))

    def hops(self, start, end, known):
        """The hops, in their order, of a least way from a start to an end between which this bolt can't stay."""
        price = self.entry(start, end, known)[0]
        found = []
        while True:
            hop = self.last_hop(end, known, price)
            _, here, _, paid, _ = self.moves[hop[0]]
            found.append(hop)
            price = known[hop][0] - paid
            end = (self.column_of(hop), here, hop[1])
            rest = self.rested(start, end)
            if rest is not None and rest[0] == price:
                return found[::-1]

    def last_hop(self, end, known, price):
        """A hop with which this bolt moves last on some way that comes to an end for a price."""
        for hop in known:
            rest = self.rested(self.behind(hop), end)
            if rest is not None and known[hop][0] + rest[0] == price:
                return hop
        return None

    def joined(self, entry, other):
        """The entry of the ways of one entry with those of another behind them."""
        if other is None:
            return None
        return entry[0] + other[0], self.notes.behind(entry[1], other[1])

    def better(self, entry, other):
        """The entry of the least of all ways of two entries."""
        if other is None or (entry is not None and entry[0] < other[0]):
            return entry
        if entry is None or other[0] < entry[0]:
            return other
        return entry[0], self.notes.either(entry[1], other[1])


class Tower:
    """The tables of all bolts of a lock, for the wishes of a row behind its first.

    Of each bolt there are its level, its stops (the starts from which its
    table is told, with the numbers of the rows below) and its ends.
    """

    def __init__(self, lock, wishes, notes):
        self.wishes = wishes
        self.notes = notes
        self.layers = len(wishes)
        self.levels = []
        self.stops = []
        self.ends = []
        words = words_of(lock) + [[]]
        self.ground = ground_row(len(words[0]), 0, self.layers, notes)
        table = [
            ground_row(len(words[0]), layer, self.layers, notes) for _ in words[0] for layer in range(self.layers)
        ]
        for k in range(len(lock)):
            table = self.put(table, k, lock[k], words[k], words[k + 1])

    def put(self, below, k, bolt, words, above):
        """Put bolt k upon the table of those below it, and tell its own, between the words from above."""
        many, gaps = bolt
        numbers = {word: number for number, word in enumerate(words)}
        moves = [
            (numbers[way], here, there, price, self.notes.stepping(k, there))
            for here, there, price, ways in gaps
            for way in ways
        ]
        level = Level(below, many, moves, [wish[k] for wish in self.wishes[:-1]], self.notes)
        layers = range(self.layers)
        stops = [(numbers[word[:k]] * self.layers + layer, word[k], layer) for word in above for layer in layers]
        ends = stops + [(len(below), self.wishes[-1][k], self.layers - 1)]
        self.levels.append(level)
        self.stops.append(stops)
        self.ends.append(ends)
        return [level.entries((below[row], place, layer), ends) for row, place, layer in stops]

    def rows_from(self, wish):
        """A list of the rows of entries from a first wish, one of no bolts, one of the lowest, and so on."""
        rows = [self.ground]
        for level, ends, place in zip(self.levels, self.ends, wish):
            rows.append(level.entries((rows[-1], place, 0), ends))
        return rows

    def entry_from(self, wish):
        """The entry of the least ways from a first wish that meet the others; None where none does."""
        return self.rows_from(wish)[-1][-1]

    def price_from(self, wish):
        """The least price of a way from a first wish that meets the others; None where none does."""
        entry = self.entry_from(wish)
        return None if entry is None else entry[0]


def layers_from(asked, place, layer):
    """A list of the layers that can be come to from a layer while the bolt stays at a place."""
    found = [layer]
    for wanted in asked[layer:]:
        if wanted not in (None, place):
            break
        found.append(found[-1] + 1)
    return found


def are_one(places):
    """Whether all places of a list that aren't None are one."""
    return len({place for place in places if place is not None}) <= 1


def ground_row(many, layer, layers, notes):
    """The row of the table of no bolts from a layer."""
    ends = [upto for _ in range(many) for upto in range(layers)] + [layers - 1]
    return [(0, notes.standing()) if layer <= upto else None for upto in ends]


def entry_of(lock, row, notes):
    """The entry (price, note) of the least ways that meet a row of wishes; None where none does."""
    return Tower(lock, row[1:], notes).entry_from(row[0])
