"""Locks made for a told count."""

from waitbolts.checks import is_whole_in
from waitbolts.errors import NoCount, NoPlaces
from waitbolts.locks import FEWEST_PLACES, MOST_BOLTS, MOST_PLACES

MOST_COUNT = 10 ** 18


def row_of(places):
    """A tuple (lock, one, other): a lock whose bolts have so many places, its stands in one row, and its two ends."""
    if not isinstance(places, list) or not 1 <= len(places) <= MOST_BOLTS:
        raise NoPlaces()
    if not all([is_whole_in(many, FEWEST_PLACES, MOST_PLACES) for many in places]):
        raise NoPlaces()
    bolts = []
    one, other = (), ()
    for many in places:
        bolts.append(row_bolt(many, one, other))
        # Those below go all along their row between each two steps, so they end at either end of it.
        one, other = one + (0,), (other if many % 2 else one) + (many - 1,)
    return tuple(bolts), one, other


def row_bolt(many, one, other):
    """A bolt that steps from place to place and back, while those below stand at one end of their row in turn."""
    gaps = []
    for place in range(many - 1):
        word = one if place % 2 else other
        gaps.append((place, place + 1, 1, (word,)))
        gaps.append((place + 1, place, 1, (word,)))
    return many, tuple(sorted(gaps))


def made(count):
    """A tuple (lock, one, other): a lock of as few bolts with two places as can be, two stands so many steps apart."""
    if not is_whole_in(count, 1, MOST_COUNT):
        raise NoCount()
    # No least way comes to a stand twice, so fewer bolts, with count stands at most, have none of so many steps.
    lock, one, _ = row_of([FEWEST_PLACES] * count.bit_length())
    # Each next bolt turns its row about, so its place is told by two figures of the count side by side.
    figures = count ^ (count >> 1)
    return lock, one, tuple([figures >> k & 1 for k in range(len(lock))])
