"""The rules by which a paper keeps, and what it says."""

from waitbolts.checks import are_wished, is_tuple_of, is_whole
from waitbolts.errors import NoPrice
from waitbolts.locks import manys_of
from waitbolts.tables import are_one

MOST_ROWS = 40000


def is_paper(lock, thing):
    """Whether a thing is a paper by its form."""
    if not isinstance(thing, dict) or len(thing) > MOST_ROWS:
        return False
    manys = manys_of(lock)
    for row, number in thing.items():
        if number is not None and (not is_whole(number) or number < 1):
            return False
        if not is_tuple_of(row, 2, 4) or not is_tuple_of(row[0], 1, len(manys)):
            return False
        some = manys[:len(row[0])]
        if not all([are_wished(wish, some) for wish in row]):
            return False
    return True


def need_bar(thing):
    """Refuse what is no price that a paper may bar, or never."""
    if thing is not None and (not is_whole(thing) or thing < 0):
        raise NoPrice()


def is_at_most(one, other):
    """Whether a number that papers say is no more than another one; None, never, is more than all."""
    return other is None or (one is not None and one <= other)


def together(one, price, other):
    """A number that papers say, a price and another number, together."""
    return None if one is None or other is None else one + price + other


def all_keep(lock, paper):
    """Whether each row of what is a paper by its form keeps."""
    return all([row_keeps(lock, paper, row) for row in paper])


def row_keeps(lock, paper, row):
    """Whether a row of a paper says no more than its rule lets it."""
    k = len(row[0]) - 1
    places = [wish[k] for wish in row]
    cut = tuple([wish[:k] for wish in row])
    if are_one(places):
        return is_at_most(paper[row], paper.get(cut, 0))
    here = [place for place in places if place is not None][0]
    for _, there, price, ways in [gap for gap in lock[k][1] if gap[0] == here]:
        for way in ways:
            for n in firsts(places, here):
                ahead = paper.get(cut[:n] + (way,), 0)
                rest = paper.get((way + (there,),) + row[n:], 0)
                if not is_at_most(paper[row], together(ahead, price, rest)):
                    return False
    return True


def firsts(places, here):
    """The counts, from 1 on, of first places that are all one or None, where not all are."""
    found = []
    for n, place in enumerate(places):
        if place not in (None, here):
            break
        found.append(n + 1)
    return found
