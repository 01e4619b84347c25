"""Tables of the least ways that meet a row of wishes, bolt by bolt from the lowest one up.

The table of the lowest m bolts tells, between all words of m places that
bolts above ask for, the entry of the least ways: a tuple (price, note), or
None where no way leads. Beside the words stand the row's first wish, as one
more start, and its last wish, as one more end, both cut to m places. The
wishes between are met on the way: a layer is how many of them are met so far.
So a start or an end is a word together with a layer.
"""

from heapq import heappop, heappush
from waitbolts.words import words_of


class Level:
    """One bolt upon the table of those below it.

    A start is a tuple (row of the table below, place of this bolt or None,
    layer), an end is one with a column in the place of the row. A move is a
    tuple (number of the word below, from, to, price, note of the step); asked
    has the places, or None, that the wishes between want of this bolt.
    """

    def __init__(self, below, many, moves, asked, notes):
        self.below = below
        self.many = many
        self.moves = moves
        self.asked = asked
        self.notes = notes
        self.layers = len(asked) + 1
        self.onward = [[layers_from(asked, place, layer) for layer in range(self.layers)] for place in range(many)]

    def table(self, starts, ends):
        """The table of the bolts up to this one."""
        rows = []
        for start in starts:
            known = self.moved(start)
            rows.append([self.entry(start, end, known) for end in ends])
        return rows

    def entry(self, start, end, known):
        """The entry from a start to an end, known what moved tells of the start."""
        row, place, layer = start
        column, last, upto = end
        if upto < layer:
            return None
        # Where this bolt can stay, no least way moves it.
        if are_one([place, last] + self.asked[layer:upto]):
            return self.below[row][column]
        found = None
        for number, met in known:
            word, _, there = self.moves[number][:3]
            if last in (None, there) and upto in self.onward[there][met]:
                rest = self.below[word * self.layers + met][column]
                found = self.better(found, self.joined(known[(number, met)], rest))
        return found

    def moved(self, start):
        """A dict from moves' numbers and layers to the entries of the least ways that end with such a move."""
        row, place, layer = start
        best = {}
        queue = []
        for at in range(self.many):
            if place in (None, at):
                self.move_on(best, queue, (0, self.notes.standing()), (row, at, layer))
        while queue:
            price, number, met = heappop(queue)
            entry = best[(number, met)]
            if price == entry[0]:
                word, _, there = self.moves[number][:3]
                self.move_on(best, queue, entry, (word * self.layers + met, there, met))
        return best

    def move_on(self, best, queue, entry, start):
        """Put into best and the queue what the next moves come to, behind the ways that led to a start."""
        row, place, layer = start
        for number, (word, here, _, price, note) in enumerate(self.moves):
            if here != place:
                continue
            for met in self.onward[place][layer]:
                led = self.joined(entry, self.below[row][word * self.layers + met])
                if led is not None:
                    led = self.joined(led, (price, note))
                    old = best.get((number, met))
                    best[(number, met)] = self.better(old, led)
                    if old is None or led[0] < old[0]:
                        heappush(queue, (led[0], number, met))

    def joined(self, entry, other):
        """The entry of the ways of one entry with those of another behind them."""
        if other is None:
            return None
        return entry[0] + other[0], self.notes.behind(entry[1], other[1])

    def better(self, entry, other):
        """The entry of the least of all ways of two entries."""
        if other is None or (entry is not None and entry[0] < other[0]):
            return entry
        if entry is None or other[0] < entry[0]:
            return other
        return entry[0], self.notes.either(entry[1], other[1])


def layers_from(asked, place, layer):
    """A list of the layers that can be come to from a layer while the bolt stays at a place."""
    found = [layer]
    for wanted in asked[layer:]:
        if wanted not in (None, place):
            break
        found.append(found[-1] + 1)
    return found


def are_one(places):
    """Whether all places of a list that aren't None are one."""
    return len({place for place in places if place is not None}) <= 1


def ground(many, layers, notes):
    """The table of no bolts, with so many words."""
    met = [layer for _ in range(many) for layer in range(layers)]
    ends = met + [layers - 1]
    return [[(0, notes.standing()) if layer <= upto else None for upto in ends] for layer in met + [0]]


def entry_of(lock, row, notes):
    """The entry (price, note) of the least ways that meet a row of wishes; None where none does."""
    words = words_of(lock) + [[]]
    layers = len(row) - 1
    table = ground(len(words[0]), layers, notes)
    for k, (many, gaps) in enumerate(lock):
        numbers = {word: number for number, word in enumerate(words[k])}
        moves = [
            (numbers[way], here, there, price, notes.stepping(k, there))
            for here, there, price, ways in gaps
            for way in ways
        ]
        level = Level(table, many, moves, [wish[k] for wish in row[1:-1]], notes)
        stops = [
            (numbers[word[:k]] * layers + layer, word[k], layer)
            for word in words[k + 1]
            for layer in range(layers)
        ]
        aside = len(words[k]) * layers
        starts = stops + [(aside, row[0][k], 0)]
        table = level.table(starts, stops + [(aside, row[-1][k], layers - 1)])
    return table[-1][-1]
