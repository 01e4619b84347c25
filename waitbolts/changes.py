"""Locks changed."""

from waitbolts.checks import are_places, are_wished, is_whole_in
from waitbolts.errors import NoBolt, NoGap, NoNames, NoPrice, NoWay, NoWish, Taken, Unlike
from waitbolts.locks import MOST_PRICE, manys_of, need_lock, need_stand


def put_gap(lock, k, here, there, price):
    """The lock with a gap without ways put to bolt k."""
    need_lock(lock)
    need_bolt(lock, k)
    many, gaps = lock[k]
    if not are_places((here, there), (many, many)) or here == there:
        raise NoGap()
    need_price(price)
    if gap_number(lock, k, here, there) is not None:
        raise Taken()
    return with_gaps(lock, k, list(gaps) + [(here, there, price, ())])


def out_gap(lock, k, here, there):
    """The lock with a gap taken out."""
    need_lock(lock)
    need_bolt(lock, k)
    number = need_gap(lock, k, here, there)
    gaps = lock[k][1]
    return with_gaps(lock, k, gaps[:number] + gaps[number + 1:])


def put_way(lock, k, here, there, way):
    """The lock with a way put to a gap."""
    need_lock(lock)
    need_bolt(lock, k)
    number = need_gap(lock, k, here, there)
    if not are_places(way, manys_of(lock[:k])):
        raise NoWay()
    price, ways = lock[k][1][number][2:]
    if way in ways:
        raise Taken()
    return with_gap(lock, k, number, (here, there, price, tuple(sorted(ways + (way,)))))


def out_way(lock, k, here, there, way):
    """The lock with a way of a gap taken out."""
    need_lock(lock)
    need_bolt(lock, k)
    number = need_gap(lock, k, here, there)
    price, ways = lock[k][1][number][2:]
    if not are_places(way, manys_of(lock[:k])) or way not in ways:
        raise NoWay()
    return with_gap(lock, k, number, (here, there, price, tuple([one for one in ways if one != way])))


def priced(lock, k, here, there, price):
    """The lock with another price of a gap."""
    need_lock(lock)
    need_bolt(lock, k)
    number = need_gap(lock, k, here, there)
    need_price(price)
    return with_gap(lock, k, number, (here, there, price, lock[k][1][number][3]))


def need_bolt(lock, thing):
    """Refuse what is no number of a bolt."""
    if not is_whole_in(thing, 0, len(lock) - 1):
        raise NoBolt()


def need_price(thing):
    """Refuse what is no price of a gap."""
    if not is_whole_in(thing, 1, MOST_PRICE):
        raise NoPrice()


def need_gap(lock, k, here, there):
    """The number of bolt k's gap between two things; refuse what are no two places between which there is one."""
    number = gap_number(lock, k, here, there)
    if number is None:
        raise NoGap()
    return number


def gap_number(lock, k, here, there):
    """The number of bolt k's gap between two things; None where there is none."""
    many, gaps = lock[k]
    if are_places((here, there), (many, many)):
        for number, gap in enumerate(gaps):
            if gap[:2] == (here, there):
                return number
    return None


def with_gap(lock, k, number, gap):
    """The lock with another gap in the place of bolt k's gap of that number."""
    gaps = lock[k][1]
    return with_gaps(lock, k, gaps[:number] + (gap,) + gaps[number + 1:])


def with_gaps(lock, k, gaps):
    """The lock with other gaps of bolt k; refused where it is none."""
    bolt = (lock[k][0], tuple(sorted(gaps)))
    return told_lock(lock[:k] + (bolt,) + lock[k + 1:])


def told_lock(lock):
    """The lock; refused where it is none."""
    need_lock(lock)
    return lock


def rusted(lock, places):
    """The lock of the bolts that aren't in a dict from bolts to the places where they stay."""
    need_lock(lock)
    need_places(lock, places)
    bolts = []
    for k, (many, gaps) in enumerate(lock):
        if k not in places:
            bolts.append((many, tuple([gap[:3] + (ways_left(gap[3], places),) for gap in gaps])))
    return told_lock(tuple(bolts))


def need_places(lock, thing):
    """Refuse what is no dict from numbers of bolts, not of all, to places of them."""
    if not isinstance(thing, dict) or len(thing) >= len(lock):
        raise NoBolt()
    for k in thing:
        if not is_whole_in(k, 0, len(lock) - 1) or not is_whole_in(thing[k], 0, lock[k][0] - 1):
            raise NoBolt()


def ways_left(ways, places):
    """The ways that have bolts of a dict at their places, without these."""
    return tuple([left(way, places) for way in ways if all([way[k] == places.get(k, way[k]) for k in range(len(way))])])


def left(wish, places):
    """A word or a wish without the places of a dict's bolts."""
    return tuple([place for k, place in enumerate(wish) if k not in places])


def without(lock, places, wish):
    """A wish without the bolts that are in a dict from bolts to the places where they stay."""
    need_lock(lock)
    need_places(lock, places)
    if not are_wished(wish, manys_of(lock)) or not all([wish[k] in (None, places[k]) for k in places]):
        raise NoWish()
    return left(wish, places)


def lower(lock, many):
    """The lock of the first so many bolts."""
    need_lock(lock)
    if not is_whole_in(many, 1, len(lock)):
        raise NoBolt()
    return told_lock(lock[:many])


def renamed(lock, k, names):
    """The lock with bolt k's place p called names[p]."""
    need_lock(lock)
    need_bolt(lock, k)
    many, gaps = lock[k]
    if not are_places(names, (many,) * many) or len(set(names)) < many:
        raise NoNames()
    turned_gaps = [(names[here], names[there], price, ways) for here, there, price, ways in gaps]
    bolts = [bolt_renamed(bolt, k, names) for bolt in lock[k + 1:]]
    return told_lock(lock[:k] + ((many, tuple(sorted(turned_gaps))),) + tuple(bolts))


def bolt_renamed(bolt, k, names):
    """A bolt above bolt k, whose places are called otherwise."""
    gaps = []
    for here, there, price, ways in bolt[1]:
        words = [way[:k] + (names[way[k]],) + way[k + 1:] for way in ways]
        gaps.append((here, there, price, tuple(sorted(words))))
    return bolt[0], tuple(gaps)


def turned(lock):
    """The lock with each gap turned about."""
    need_lock(lock)
    bolts = []
    for many, gaps in lock:
        bolts.append((many, tuple(sorted([(there, here, price, ways) for here, there, price, ways in gaps]))))
    return told_lock(tuple(bolts))


def upon(lock, second, stand):
    """The lock with the bolts of a second one on top, which can go while those below are at a stand."""
    need_lock(lock)
    need_lock(second)
    need_stand(lock, stand)
    bolts = []
    for many, gaps in second:
        bolts.append((many, tuple([gap[:3] + (tuple([stand + way for way in gap[3]]),) for gap in gaps])))
    return told_lock(lock + tuple(bolts))


def is_within(lock, second):
    """Whether each step that can be done at a stand of a second lock can be done there in a lock, for no more."""
    need_lock(lock)
    need_lock(second)
    if manys_of(lock) != manys_of(second):
        raise Unlike()
    return all([is_bolt_within(bolt, other) for bolt, other in zip(lock, second)])


def is_bolt_within(bolt, other):
    """Whether each way of another bolt's gaps is one of a bolt's, for no more."""
    prices = {(here, there, way): price for here, there, price, ways in bolt[1] for way in ways}
    for here, there, price, ways in other[1]:
        for way in ways:
            if prices.get((here, there, way), price + 1) > price:
                return False
    return True
