"""Books and their parts, weighed and read without going the steps one by one."""

from waitbolts.checks import are_places, is_tuple_of, is_whole_in
from waitbolts.errors import NoBook
from waitbolts.locks import manys_of, price_of_step
from waitbolts.words import moves_by_word

MOST_PARTS = 30000
MOST_ENTRIES = 60
# Ten to the three hundredth.
MOST_STEPS = (10 ** 60) ** 5


class Reader:
    """A book that is being read: beside its parts stand their prices and how many steps they have.

    A path keeps the parts in which the step was that was asked for last, from
    the way down, for whoever seeks a step asks for near ones again and again:
    tuples (number, its first step's number, that behind its last, the stand
    and the price ahead of it).
    """

    def __init__(self, lock):
        self.manys = manys_of(lock)
        self.moves = moves_by_word(lock)
        self.parts = []
        self.prices = []
        self.counts = []
        self.path = []

    def put(self, thing):
        """Put a thing behind the parts, and tell whether it is one."""
        if not is_tuple_of(thing, 3, 3):
            return False
        begin, end, entries = thing
        if not is_tuple_of(begin, 1, len(self.manys)) or not is_tuple_of(entries, 0, MOST_ENTRIES):
            return False
        manys = self.manys[:len(begin)]
        if not are_places(begin, manys) or not are_places(end, manys):
            return False
        weight = self.weight(begin, end, entries)
        if weight is None:
            return False
        self.parts.append((tuple(begin), tuple(end), entries))
        self.prices.append(weight[0])
        self.counts.append(weight[1])
        return True

    def weight(self, begin, end, entries):
        """A tuple (price, steps) of entries that lead from begin to end; None where they don't or are too long."""
        places, price, count = begin, 0, 0
        for entry in entries:
            gone = self.gone(entry, places)
            if gone is None:
                return None
            places = gone[0]
            price += gone[1]
            count += gone[2]
        if places != end or count > MOST_STEPS:
            return None
        return price, count

    def gone(self, thing, places):
        """A tuple (places behind it, price, steps) of an entry that can be done at places; None of what is none."""
        if is_tuple_of(thing, 3, 3) and thing[0] == "step":
            price = price_of_step(self.moves, places, thing[1:])
            if price is None:
                return None
            _, k, to = thing
            return places[:k] + (to,) + places[k + 1:], price, 1
        if not is_tuple_of(thing, 2, 2) or thing[0] != "part" or not is_whole_in(thing[1], 0, len(self.parts) - 1):
            return None
        begin, end, _ = self.parts[thing[1]]
        if places[:len(begin)] != begin:
            return None
        return end + places[len(begin):], self.prices[thing[1]], self.counts[thing[1]]

    def steps_of(self, entry):
        """How many steps an entry has."""
        return self.counts[entry[1]] if entry[0] == "part" else 1

    def whole(self):
        """The entry that does the way."""
        return ("part", len(self.parts) - 1)

    def way(self):
        """A tuple (begin, end, price, steps) of the way."""
        begin, end, _ = self.parts[-1]
        return begin, end, self.prices[-1], self.counts[-1]

    def entered(self, number, stand, left):
        """The entry of a part, gone from a stand, in which step number left is done.

        A tuple (entry, the stand at it, the price of what is ahead of it, the
        number of the step within it).
        """
        paid = 0
        for entry in self.parts[number][2]:
            behind, price, count = self.gone(entry, stand)
            if left < count:
                return entry, stand, paid, left
            stand, paid, left = behind, paid + price, left - count
        return None

    def reached(self, t):
        """A tuple (stand, price, step): where the way stands behind t steps, what they cost, the step done there.

        At the way's end, where no step is done, None stands in its place.
        """
        begin, end, price, count = self.way()
        if t == count:
            return end, price, None
        while self.path and not self.path[-1][1] <= t < self.path[-1][2]:
            self.path.pop()
        if not self.path:
            self.path.append((len(self.parts) - 1, 0, count, begin, 0))
        while True:
            number, first, _, stand, paid = self.path[-1]
            entry, stand, price, left = self.entered(number, stand, t - first)
            if entry[0] == "step":
                return stand, paid + price, entry[1:]
            first = t - left
            self.path.append((entry[1], first, first + self.counts[entry[1]], stand, paid + price))


def need_book(lock, thing):
    """The reader of a book; refuse what is none."""
    if not is_tuple_of(thing, 1, MOST_PARTS):
        raise NoBook(0)
    reader = Reader(lock)
    for number, part in enumerate(thing):
        if not reader.put(part):
            raise NoBook(number)
    if len(reader.parts[-1][0]) != len(lock):
        raise NoBook(len(thing))
    return reader


def used_parts(parts, entries):
    """The rising list of the numbers of all parts that entries use."""
    used = [False] * len(parts)
    for entry in entries:
        if entry[0] == "part":
            used[entry[1]] = True
    for number in reversed(range(len(parts))):
        if used[number]:
            for entry in parts[number][2]:
                if entry[0] == "part":
                    used[entry[1]] = True
    return [number for number in range(len(parts)) if used[number]]
