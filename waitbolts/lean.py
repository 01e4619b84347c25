"""Locks without the ways that no least price wants, and locks held beside one another."""

from waitbolts.errors import Unlike
from waitbolts.least import least
from waitbolts.locks import manys_of, need_lock
from waitbolts.notes import Counts
from waitbolts.tables import Level, Tower


def needless(lock):
    """The rising list of (k, from, to, way): all ways of gaps beside which another way leads for no more."""
    need_lock(lock)
    # Two ways are told apart from one; more need not be counted.
    tower = Tower(lock, ((None,) * len(lock),), Counts(2))
    found = []
    for k in range(len(lock)):
        found.extend(needless_of(lock, tower, k))
    return found


def needless_of(lock, tower, k):
    """The needless ways (k, from, to, way) of bolt k's gaps."""
    numbers = {word: number for number, word in enumerate(tower.words[k])}
    gone = [(here, there, price, way) for here, there, price, ways in lock[k][1] for way in ways]
    ends = [(numbers[way], there, 0) for _, there, _, way in gone]
    below = tower.levels[k].below
    level = Level(below, lock[k][0], tower.levels[k].moves, [], ends, tower.notes)
    found = []
    for number, (here, there, price, way) in enumerate(gone):
        start = below[numbers[way]], here, 0
        # The step alone is a way of the gap's price, so it is told unless there is a cheaper one or another one.
        if level.entry(start, number, level.moved(start)) != (price, 1):
            found.append((k, here, there, way))
    return found


def lean(lock):
    """The lock without all needless ways, and then without all gaps that have no way."""
    need_lock(lock)
    gone = {way: True for way in needless(lock)}
    bolts = []
    for k, (many, gaps) in enumerate(lock):
        left = []
        for here, there, price, ways in gaps:
            kept = tuple([way for way in ways if (k, here, there, way) not in gone])
            if kept:
                left.append((here, there, price, kept))
        bolts.append((many, tuple(left)))
    return tuple(bolts)


def alike(lock, second):
    """None where two locks have the same least prices, else two stands, and their least prices in both."""
    need_lock(lock)
    need_lock(second)
    if manys_of(lock) != manys_of(second):
        raise Unlike()
    ways, others = priced_ways(lean(lock)), priced_ways(lean(second))
    odd = [way for way in ways if way not in others] + [way for way in others if way not in ways]
    if not odd:
        return None
    # All cheaper steps are in both lean locks, so in the one without this step no way costs so little.
    _, k, here, there, way = min(odd)
    above = (0,) * (len(lock) - k - 1)
    row = way + (here,) + above, way + (there,) + above
    return row + (least(lock, row), least(second, row))


def priced_ways(lock):
    """A dict of all ways of gaps of the lock, as tuples (price, k, from, to, way)."""
    return {
        (price, k, here, there, way): True
        for k, (_, gaps) in enumerate(lock)
        for here, there, price, ways in gaps
        for way in ways
    }
