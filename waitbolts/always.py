"""What holds of all least ways that meet a row of wishes."""

from waitbolts.checks import is_tuple_of, is_whole
from waitbolts.curves import Curve
from waitbolts.errors import NoGap
from waitbolts.locks import gaps_of, need_lock, need_row
from waitbolts.notes import Musts, NoNotes, Uses
from waitbolts.tables import Tower, entry_of


def uses(lock, row, gaps):
    """A tuple (fewest, most) of how many steps least ways do along some gaps together; None where there is none."""
    need_lock(lock)
    need_row(lock, row)
    known = gaps_of(lock)
    if not isinstance(gaps, list) or not all([is_one_of(gap, known) for gap in gaps]) or len(set(gaps)) < len(gaps):
        raise NoGap()
    return used(lock, row, {gap: True for gap in gaps})


def is_one_of(thing, gaps):
    """Whether a thing is one of some gaps, the keys of a dict."""
    return is_tuple_of(thing, 3, 3) and all([is_whole(number) for number in thing]) and thing in gaps


def used(lock, row, gaps):
    """What uses tells of gaps that are the keys of a dict."""
    entry = entry_of(lock, row, Uses(gaps))
    return None if entry is None else entry[1]


def lengths(lock, row):
    """A tuple (fewest, most) of how many steps least ways have; None where there is none."""
    need_lock(lock)
    need_row(lock, row)
    return used(lock, row, gaps_of(lock))


def needed(lock, row):
    """The rising list of tuples (k, from, to, way, price): ways of gaps without which the least price is more."""
    need_lock(lock)
    need_row(lock, row)
    gaps = gaps_of(lock)
    ways = [gap + (way,) for gap in gaps for way in gaps[gap]]
    entry = entry_of(lock, row, Musts({way: number for number, way in enumerate(ways)}))
    if entry is None:
        return []
    tower = Tower(lock, row[1:], NoNotes())
    rows = tower.rows_from(row[0])
    return [
        way + (price_without(tower, row[0], rows, way),)
        for number, way in enumerate(ways)
        if entry[1] >> number & 1
    ]


def price_without(tower, first, rows, gone):
    """The least price from a first wish without a way of a gap (k, from, to, way); None where no way leads."""
    k, here, there, way = gone
    words = tower.words[k]
    moves = [move for move in tower.levels[k].moves if (words[move[0]], move[1], move[2]) != (way, here, there)]
    entry = tower.entry_changed(first, rows, k, moves)
    return None if entry is None else entry[0]


def spans(lock, row, gap):
    """A list of tuples (x, price, by): the least price where the gap's price is x, and by how much it rises there."""
    need_lock(lock)
    need_row(lock, row)
    if not is_one_of(gap, gaps_of(lock)):
        raise NoGap()
    curve = Curve(lock, row, gap)
    if not curve.is_met():
        return []
    return curve.told()
