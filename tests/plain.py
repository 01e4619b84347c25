"""What plain walks through all stands of small locks tell, beside which the program is tested."""

from heapq import heappop, heappush
from itertools import product


def stands(lock):
    """All stands of the lock."""
    return list(product(*[range(bolt[0]) for bolt in lock]))


def steps(lock, stand):
    """All (k, to, price) that can be done at a stand."""
    found = []
    for k, (_, gaps) in enumerate(lock):
        for here, there, price, ways in gaps:
            if here == stand[k] and any(way == stand[:k] for way in ways):
                found.append((k, there, price))
    return sorted(found)


def behind(stand, k, to):
    """The stand behind a step."""
    return stand[:k] + (to,) + stand[k + 1:]


def meets(stand, wish):
    """Whether a stand meets a wish."""
    return all(want is None or want == place for want, place in zip(wish, stand))


def prices(lock, starts):
    """The least price from some of the starts to each stand that can be come to."""
    best = {stand: 0 for stand in starts}
    queue = [(0, stand) for stand in sorted(starts)]
    while queue:
        paid, stand = heappop(queue)
        if paid > best[stand]:
            continue
        for k, to, price in steps(lock, stand):
            there = behind(stand, k, to)
            if paid + price < best.get(there, paid + price + 1):
                best[there] = paid + price
                heappush(queue, (paid + price, there))
    return best


def least(lock, row):
    """The least price of a way that meets a row: a walk over stands and how many wishes are met."""
    everywhere = stands(lock)
    best = {}
    queue = []

    def come(stand, met, paid):
        while met < len(row) and meets(stand, row[met]):
            met += 1
        if paid < best.get((stand, met), paid + 1):
            best[(stand, met)] = paid
            heappush(queue, (paid, stand, met))

    for stand in everywhere:
        if meets(stand, row[0]):
            come(stand, 0, 0)
    while queue:
        paid, stand, met = heappop(queue)
        if met == len(row):
            return paid
        if paid == best[(stand, met)]:
            for k, to, price in steps(lock, stand):
                come(behind(stand, k, to), met, paid + price)
    return None


def least_ways(lock, stand, wish):
    """A tuple (first steps, count) of the least ways from a stand to a wish."""
    best = prices(lock, [stand])
    ends = [there for there in best if meets(there, wish)]
    if not ends:
        return [], 0
    price = min(best[there] for there in ends)
    counts = {}
    firsts = {}
    for there in sorted(best, key=lambda one: -best[one]):
        if best[there] > price:
            continue
        counts[there] = 1 if best[there] == price and there in ends else 0
        firsts[there] = []
        for k, to, cost in steps(lock, there):
            after = behind(there, k, to)
            if best[after] == best[there] + cost and counts.get(after):
                counts[there] += counts[after]
                firsts[there].append((k, to))
    return firsts[stand], counts[stand]


def uses(lock, row, gaps):
    """A tuple (price, fewest, most): of the least ways that meet a row, the counts of steps along some gaps."""
    best = {}
    queue = []

    def come(stand, met, paid, fewest, most):
        while met < len(row) and meets(stand, row[met]):
            met += 1
        old = best.get((stand, met))
        if old is None or paid < old[0]:
            best[(stand, met)] = (paid, fewest, most)
            heappush(queue, (paid, stand, met))
        elif paid == old[0]:
            best[(stand, met)] = (paid, min(fewest, old[1]), max(most, old[2]))

    for stand in stands(lock):
        if meets(stand, row[0]):
            come(stand, 0, 0, 0, 0)
    ends = []
    while queue:
        paid, stand, met = heappop(queue)
        if paid > best[(stand, met)][0]:
            continue
        _, fewest, most = best[(stand, met)]
        if met == len(row):
            ends.append((paid, fewest, most))
            continue
        for k, to, price in steps(lock, stand):
            more = 1 if (k, stand[k], to) in gaps else 0
            come(behind(stand, k, to), met, paid + price, fewest + more, most + more)
    price = min([end[0] for end in ends], default=None)
    ends = [end for end in ends if end[0] == price]
    return (price, min(end[1] for end in ends), max(end[2] for end in ends)) if ends else None


def gaps(lock):
    """All gaps (k, from, to) of the lock."""
    return [(k, here, there) for k, (_, some) in enumerate(lock) for here, there, _, _ in some]


def with_gap(lock, gap, change):
    """The lock with one gap's price and ways changed by a function that tells new ones."""
    bolts = []
    for k, (many, some) in enumerate(lock):
        told = []
        for here, there, price, ways in some:
            if (k, here, there) == gap:
                price, ways = change(price, ways)
            told.append((here, there, price, ways))
        bolts.append((many, tuple(told)))
    return tuple(bolts)


def priced(lock, gap, price):
    """The lock with another price of a gap."""
    return with_gap(lock, gap, lambda _, ways: (price, ways))


def without_way(lock, gap, way):
    """The lock without one way of a gap."""
    return with_gap(lock, gap, lambda price, ways: (price, tuple(one for one in ways if one != way)))


def keeps(lock, paper, back=False):
    """Whether a paper keeps, or keeps from behind, as the rules are written."""
    return all(row_keeps(lock, paper, row, back) for row in paper)


def row_keeps(lock, paper, row, back):
    """Whether a row keeps."""
    never = float("inf")

    def says(wishes):
        number = paper.get(tuple(wishes), 0) if wishes[0] else 0
        return never if number is None else number

    last = len(row[0]) - 1
    places = [wish[last] for wish in row]
    there = [place for place in places if place is not None]
    cut = [wish[:-1] for wish in row]
    if len(set(there)) <= 1:
        return says(row) <= says(cut)
    met = there[-1] if back else there[0]
    for here, to, price, ways in lock[last][1]:
        for way in ways:
            for n in range(1, len(row) + 1):
                some = places[-n:] if back else places[:n]
                if any(place not in (None, met) for place in some):
                    continue
                if back and to == met:
                    first, second = list(row[:-n]) + [way + (here,)], [way] + cut[-n:]
                elif not back and here == met:
                    first, second = cut[:n] + [way], [way + (to,)] + list(row[n:])
                else:
                    continue
                if says(row) > says(first) + price + says(second):
                    return False
    return True


def needless(lock):
    """The ways (k, from, to, way) of gaps beside which another way leads for no more."""
    found = []
    for k, here, there in gaps(lock):
        [(price, ways)] = [gap[2:] for gap in lock[k][1] if gap[:2] == (here, there)]
        for way in ways:
            others = prices(without_way(lock[:k + 1], (k, here, there), way), [way + (here,)])
            if others.get(way + (there,), price + 1) <= price:
                found.append((k, here, there, way))
    return found


def all_prices(lock):
    """A dict from each stand to the least prices of all stands that can be come to from it."""
    return {stand: prices(lock, [stand]) for stand in stands(lock)}
