"""Tables of the least ways that meet a row of wishes, bolt by bolt from the lowest one up.

The table of the lowest m bolts tells, between all words of m places that
bolts above ask for, the entry of the least ways: a tuple (price, note), or
None where no way leads. Beside the words stands the row's last wish, as one
more end, cut to m places; the rows from the first wish are told for
themselves. The wishes between are met on the way: a layer is how many of them
are met so far. So a start or an end is a word together with a layer.
"""

from heapq import heappop, heappush
from waitbolts.words import words_of


class Level:
    """One bolt upon the table of those below it.

    A start is a tuple (row of entries below, place of this bolt or None,
    layer), an end is one with a column of the table below in the place of the
    row. A move is a tuple (number of the word below, from, to, price, note of
    the step). A hop is a move done in a layer: a tuple (column of the table
    below, from, to, price, note); its column is the row from behind it, too.
    Asked has the places, or None, that the wishes between want of this bolt.
    """

    def __init__(self, below, many, moves, asked, ends, notes):
        self.below = below
        self.many = many
        self.moves = moves
        self.asked = asked
        self.ends = ends
        self.notes = notes
        self.layers = len(asked) + 1
        layers = range(self.layers)
        self.hops = [
            (word * self.layers + met, here, there, price, note)
            for word, here, there, price, note in moves
            for met in layers
        ]
        self.onward = [[layers_from(asked, place, layer) for layer in layers] for place in range(many)]
        self.nexts = [[self.hops_from(place, layer) for layer in layers] for place in range(many)]
        self.lasts = [self.hops_to(end) for end in ends]

    def changed(self, below, moves):
        """The same bolt upon another table, and with other moves."""
        return Level(below, self.many, moves, self.asked, self.ends, self.notes)

    def hops_from(self, place, layer):
        """The numbers of the hops that may be the first ones where this bolt stands at a place."""
        met = self.onward[place][layer]
        return [
            number for number, hop in enumerate(self.hops) if hop[1] == place and number % self.layers in met
        ]

    def hops_to(self, end):
        """The numbers of the hops that may be the last ones ahead of an end."""
        _, last, upto = end
        return [
            number for number, hop in enumerate(self.hops)
            if last in (None, hop[2]) and upto in self.onward[hop[2]][number % self.layers]
        ]

    def entries(self, start):
        """The entries from a start to all ends."""
        known = self.moved(start)
        return [self.entry(start, number, known) for number in range(len(self.ends))]

    def entry(self, start, number, known):
        """The entry from a start to an end, told by its number, known what moved tells of the start."""
        column, last, upto = self.ends[number]
        if upto < start[2]:
            return None
        # Where this bolt can stay, no least way moves it.
        if are_one([start[1], last] + self.asked[start[2]:upto]):
            return start[0][column]
        found = None
        for hop in self.lasts[number]:
            if known[hop] is not None:
                found = self.better(found, self.joined(known[hop], self.below[self.hops[hop][0]][column]))
        return found

    def behind(self, number):
        """The start from behind a hop."""
        column, _, there, _, _ = self.hops[number]
        return self.below[column], there, number % self.layers

    def moved(self, start):
        """A list of the entries of the least ways from a start that end with each hop, None where none does."""
        below, place, layer = start
        best = [None] * len(self.hops)
        queue = []
        for at in range(self.many):
            if place in (None, at):
                self.move_on(best, queue, (0, self.notes.standing()), (below, at, layer))
        while queue:
            price, number = heappop(queue)
            if price == best[number][0]:
                self.move_on(best, queue, best[number], self.behind(number))
        return best

    def move_on(self, best, queue, entry, start):
        """Put into best and the queue what the next hops come to, behind the ways that led to a start."""
        below, place, layer = start
        for number in self.nexts[place][layer]:
            column, _, _, price, note = self.hops[number]
            if below[column] is None:
                continue
            total = entry[0] + below[column][0] + price
            old = best[number]
            if old is None or total <= old[0]:
                led = self.joined(self.joined(entry, below[column]), (price, note))
                best[number] = self.better(old, led)
                if old is None or total < old[0]:
                    heappush(queue, (total, number))

    def way(self, start, number):
        """The numbers of the hops, in their order, of a least way from a start to an end told by its number.

        This bolt can't stay between them.
        """
        known = self.moved(start)
        price = self.entry(start, number, known)[0]
        column, lasts = self.ends[number][0], self.lasts[number]
        found = []
        while True:
            hop = self.last_hop(known, lasts, column, price)
            found.append(hop)
            column, here, _, paid, _ = self.hops[hop]
            price = known[hop][0] - paid
            if self.is_first(start, hop, price):
                return found[::-1]
            lasts = self.hops_to((column, here, hop % self.layers))

    def last_hop(self, known, lasts, column, price):
        """The first of some hops behind which a column is come to for a price in all."""
        for hop in lasts:
            if known[hop] is not None:
                rest = self.below[self.hops[hop][0]][column]
                if rest is not None and known[hop][0] + rest[0] == price:
                    return hop
        return None

    def is_first(self, start, number, price):
        """Whether a hop may be the first one from a start, those below being brought there for a price."""
        below, place, layer = start
        column, here, _, _, _ = self.hops[number]
        if place not in (None, here) or number not in self.nexts[here][layer]:
            return False
        return below[column] is not None and below[column][0] == price

    def joined(self, entry, other):
        """The entry of the ways of one entry with those of another behind them."""
        if other is None:
            return None
        return entry[0] + other[0], self.notes.behind(entry[1], other[1])

    def better(self, entry, other):
        """The entry of the least of all ways of two entries."""
        if other is None or (entry is not None and entry[0] < other[0]):
            return entry
        if entry is None or other[0] < entry[0]:
            return other
        return entry[0], self.notes.either(entry[1], other[1])


class Tower:
    """The tables of all bolts of a lock, for the wishes of a row behind its first.

    Of each bolt there are its level and its stops, the starts from which its
    table is told, with the numbers of the rows below.
    """

    def __init__(self, lock, wishes, notes):
        self.wishes = wishes
        self.notes = notes
        self.layers = len(wishes)
        self.levels = []
        self.stops = []
        self.words = words_of(lock) + [[]]
        many = len(self.words[0])
        self.ground = ground_row(many, 0, self.layers, notes)
        table = [ground_row(many, layer, self.layers, notes) for _ in range(many) for layer in range(self.layers)]
        for k, bolt in enumerate(lock):
            table = self.put(table, k, bolt)

    def put(self, below, k, bolt):
        """Put bolt k upon the table of those below it, and tell its own, between the words from above."""
        many, gaps = bolt
        numbers = {word: number for number, word in enumerate(self.words[k])}
        moves = [
            (numbers[way], here, there, price, self.notes.stepping(k, here, there, way))
            for here, there, price, ways in gaps
            for way in ways
        ]
        stops = [
            (numbers[word[:k]] * self.layers + layer, word[k], layer)
            for word in self.words[k + 1]
            for layer in range(self.layers)
        ]
        ends = stops + [(len(below), self.wishes[-1][k], self.layers - 1)]
        level = Level(below, many, moves, [wish[k] for wish in self.wishes[:-1]], ends, self.notes)
        self.levels.append(level)
        self.stops.append(stops)
        return table_of(level, stops)

    def rows_from(self, wish):
        """A list of the rows of entries from a first wish, one of no bolts, one of the lowest, and so on."""
        rows = [self.ground]
        for level, place in zip(self.levels, wish):
            rows.append(level.entries((rows[-1], place, 0)))
        return rows

    def entry_from(self, wish):
        """The entry of the least ways from a first wish that meet the others; None where none does."""
        return self.rows_from(wish)[-1][-1]

    def entry_changed(self, wish, rows, k, moves):
        """The entry from a first wish, known its rows, if bolt k had other moves."""
        table = self.levels[k].below
        row = rows[k]
        for n in range(k, len(self.levels)):
            level = self.levels[n].changed(table, moves if n == k else self.levels[n].moves)
            row = level.entries((row, wish[n], 0))
            table = table_of(level, self.stops[n])
        return row[-1]

    def price_from(self, wish):
        """The least price of a way from a first wish that meets the others; None where none does."""
        entry = self.entry_from(wish)
        return None if entry is None else entry[0]


def table_of(level, stops):
    """The table from all stops to all ends of a level."""
    return [level.entries((level.below[row], place, layer)) for row, place, layer in stops]


def layers_from(asked, place, layer):
    """A list of the layers that can be come to from a layer while the bolt stays at a place."""
    found = [layer]
    for wanted in asked[layer:]:
        if wanted not in (None, place):
            break
        found.append(found[-1] + 1)
    return found


def are_one(places):
    """Whether all places of a list that aren't None are one."""
    return len({place for place in places if place is not None}) <= 1


def ground_row(many, layer, layers, notes):
    """The row of the table of no bolts, with so many words, from a layer."""
    ends = [upto for _ in range(many) for upto in range(layers)] + [layers - 1]
    return [(0, notes.standing()) if layer <= upto else None for upto in ends]


def entry_of(lock, row, notes):
    """The entry (price, note) of the least ways that meet a row of wishes; None where none does."""
    return Tower(lock, row[1:], notes).entry_from(row[0])
