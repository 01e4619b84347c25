"""Locks, their stands, wishes and steps."""

from heapq import heappop, heappush
from waitbolts.checks import are_places, are_wished, is_tuple_of, is_whole, is_whole_in
from waitbolts.errors import NoLock, NoPrice, NoStand, NoStep, NoWish, NoWishes, TooWide
from waitbolts.words import moves_by_word, words_of

MOST_BOLTS = 60
FEWEST_PLACES = 2
MOST_PLACES = 4
MOST_WAYS = 8
MOST_WORDS = 8
MOST_PRICE = 1000000
MOST_STANDS = 2000


def is_lock(thing):
    """Whether a thing is a lock."""
    return fault_of(thing) is None


def fault_of(thing):
    """None of a lock; of anything else what is wrong with it first."""
    if not is_tuple_of(thing, 1, MOST_BOLTS):
        return ("lock",)
    manys = []
    for k, bolt in enumerate(thing):
        if not is_bolt(bolt, manys):
            return ("bolt", k)
        manys.append(bolt[0])
    for k, words in enumerate(words_of(thing)):
        if len(words) > MOST_WORDS:
            return ("words", k)
    return None


def is_bolt(thing, below):
    """Whether a thing is a bolt above bolts that have so many places."""
    if not is_tuple_of(thing, 2, 2):
        return False
    many, gaps = thing
    if not is_whole_in(many, FEWEST_PLACES, MOST_PLACES) or not isinstance(gaps, tuple):
        return False
    count = 0
    last = (-1, -1)
    for gap in gaps:
        if not is_gap(gap, many, below) or gap[:2] <= last:
            return False
        last = gap[:2]
        count += len(gap[3])
    return count <= MOST_WAYS


def is_gap(thing, many, below):
    """Whether a thing is a gap of a bolt that has so many places."""
    if not is_tuple_of(thing, 4, 4):
        return False
    here, there, price, ways = thing
    if not are_places((here, there), (many, many)) or here == there:
        return False
    return is_whole_in(price, 1, MOST_PRICE) and are_ways(ways, below)


def are_ways(thing, below):
    """Whether a thing is a tuple of unlike words, rising, one place of each bolt below."""
    if not is_tuple_of(thing, 0, MOST_WAYS):
        return False
    if not all([are_places(way, below) for way in thing]):
        return False
    return all([thing[n] < thing[n + 1] for n in range(len(thing) - 1)])


def is_stand(lock, thing):
    """Whether a thing is a stand of the lock."""
    need_lock(lock)
    return are_places(thing, manys_of(lock))


def is_wish(lock, thing):
    """Whether a thing is a wish of the lock."""
    need_lock(lock)
    return are_wished(thing, manys_of(lock))


def manys_of(lock):
    """A list of how many places each bolt has."""
    return [bolt[0] for bolt in lock]


def gaps_of(lock):
    """A dict from the lock's gaps (k, from, to) to their tuples of ways."""
    return {(k, gap[0], gap[1]): gap[3] for k, bolt in enumerate(lock) for gap in bolt[1]}


def need_lock(lock):
    """Refuse what is no lock."""
    fault = fault_of(lock)
    if fault is not None:
        raise NoLock(fault)


def need_stand(lock, thing):
    """Refuse what is no stand of the lock."""
    if not are_places(thing, manys_of(lock)):
        raise NoStand()


def need_wish(lock, thing):
    """Refuse what is no wish of the lock."""
    if not are_wished(thing, manys_of(lock)):
        raise NoWish()


def need_row(lock, thing):
    """Refuse what is no row of two to four wishes of the lock."""
    manys = manys_of(lock)
    if not is_tuple_of(thing, 2, 4) or not all([are_wished(wish, manys) for wish in thing]):
        raise NoWishes()


def stands_of(lock):
    """How many stands the lock has."""
    need_lock(lock)
    count = 1
    for many in manys_of(lock):
        count *= many
    return count


def can_step(lock, stand):
    """The rising list of tuples (k, to, price) of all steps that can be done at a stand."""
    need_lock(lock)
    need_stand(lock, stand)
    return steps_at(moves_by_word(lock), stand)


def steps_at(moves, stand):
    """The steps that can be done at a stand, told the moves by word."""
    found = []
    for k, place in enumerate(stand):
        word = stand[:k]
        # Words of higher bolts go on from this one, so no bolt from here on can step.
        if word not in moves[k]:
            break
        for here, there, price in moves[k][word]:
            if here == place:
                found.append((k, there, price))
    return found


def walked(lock, stand, steps):
    """A tuple of the stand behind a list of steps and their prices together."""
    need_lock(lock)
    need_stand(lock, stand)
    if not isinstance(steps, list):
        raise NoStep(0)
    moves = moves_by_word(lock)
    places = list(stand)
    paid = 0
    for nth, step in enumerate(steps):
        cost = price_of_step(moves, places, step)
        if cost is None:
            raise NoStep(nth)
        places[step[0]] = step[1]
        paid += cost
    return tuple(places), paid


def price_of_step(moves, places, step):
    """The price of a thing that is a step and can be done at places, else None."""
    if not is_tuple_of(step, 2, 2) or not is_whole_in(step[0], 0, len(places) - 1) or not is_whole(step[1]):
        return None
    k, to = step
    for here, there, price in moves[k].get(tuple(places[:k]), []):
        if here == places[k] and there == to:
            return price
    return None


def spread(lock, stand, price):
    """A dict of all stands that can be come to for at most a price, with the least price of each."""
    need_lock(lock)
    need_stand(lock, stand)
    if not is_whole(price) or price < 0:
        raise NoPrice()
    moves = moves_by_word(lock)
    found = {tuple(stand): 0}
    queue = [(0, tuple(stand))]
    while queue:
        paid, here = heappop(queue)
        if paid > found[here]:
            continue
        for k, to, cost in steps_at(moves, here):
            total = paid + cost
            behind = here[:k] + (to,) + here[k + 1:]
            if total <= price and (behind not in found or total < found[behind]):
                found[behind] = total
                heappush(queue, (total, behind))
        if len(found) > MOST_STANDS:
            raise TooWide()
    return found
