"""Books that the tests are done with, and what plain goes through their steps tell."""

from tests import plain
from tests.makers import random_stand

# A lock whose lowest bolt goes to and fro as it likes, and one above it that goes while it is at 1.
PAIR = ((2, ((0, 1, 3, ((),)), (1, 0, 2, ((),)))), (2, ((0, 1, 5, ((1,),)), (1, 0, 7, ((1,),)))))
HERE = (0, 0)
AROUND = (("step", 0, 1), ("step", 0, 0))


def loops(many, base=10):
    """A book of so many parts, loops of the lowest bolt of PAIR; part i has base ** (i + 1) steps, base even."""
    parts = [(HERE, HERE, AROUND * (base // 2))]
    for number in range(many - 1):
        parts.append((HERE, HERE, (("part", number),) * base))
    return tuple(parts)


def still(many, stand=HERE):
    """A book of so many parts, all without steps."""
    return ((stand, stand, ()),) * many


def chain(lock, stand, steps):
    """A book of one part for each step: the part before and the step behind it."""
    parts = [(stand, stand, ())]
    begin = stand
    for step in steps:
        stand = plain.behind(stand, *step)
        parts.append((begin, stand, (("part", len(parts) - 1), ("step",) + tuple(step))))
    return tuple(parts)


def behind(parts, places, entry):
    """The places behind an entry."""
    if entry[0] == "step":
        return plain.behind(places, entry[1], entry[2])
    end = parts[entry[1]][1]
    return end + places[len(end):]


def random_entry(rng, lock, parts, places):
    """An entry that can be done at places, or None."""
    done = [
        ("part", number) for number, part in enumerate(parts)
        if len(part[0]) <= len(places) and places[:len(part[0])] == part[0]
    ]
    steps = [("step", k, to) for k, to, _ in plain.steps(lock[:len(places)], places)]
    if done and (not steps or rng.random() < 0.6):
        return rng.choice(done)
    return rng.choice(steps) if steps else None


def random_book(rng, lock, many):
    """A book of so many parts, some of which none uses."""
    parts = []
    for number in range(many):
        bolts = rng.randint(1, len(lock)) if number < many - 1 else len(lock)
        begin = random_stand(rng, lock)
        if parts and rng.random() < 0.7:
            other = rng.choice(parts)[rng.randrange(2)]
            begin = other + begin[len(other):]
        begin = begin[:bolts]
        places = begin
        entries = []
        for _ in range(rng.randint(0, 5)):
            entry = random_entry(rng, lock, parts, places)
            if entry is not None:
                entries.append(entry)
                places = behind(parts, places, entry)
        parts.append((begin, places, tuple(entries)))
    return tuple(parts)


def flat(book):
    """The list of all steps (k, to) of a book's way."""
    steps = []
    for _, _, entries in book:
        done = []
        for entry in entries:
            done += [entry[1:]] if entry[0] == "step" else steps[entry[1]]
        steps.append(done)
    return steps[-1]


def gone(lock, book):
    """A tuple (steps, stands, prices) of a book's way: all its steps, all stands, the price up to each."""
    steps = flat(book)
    stands = [book[-1][0]]
    prices = [0]
    for k, to in steps:
        [price] = [price for at, there, price in plain.steps(lock, stands[-1]) if (at, there) == (k, to)]
        stands.append(plain.behind(stands[-1], k, to))
        prices.append(prices[-1] + price)
    return steps, stands, prices


def met(stands, row):
    """Whether a way with these stands meets a row."""
    if not plain.meets(stands[0], row[0]) or not plain.meets(stands[-1], row[-1]):
        return False
    between = list(row[1:-1])
    for stand in stands:
        while between and plain.meets(stand, between[0]):
            between.pop(0)
    return not between
