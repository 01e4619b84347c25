"""What plain walks through all stands of small locks tell, beside which the program is tested."""

from heapq import heappop, heappush
from itertools import product


def stands(lock):
    """All stands of the lock."""
    return list(product(*[range(bolt[0]) for bolt in lock]))


def steps(lock, stand):
    """All (k, to, price) that can be done at a stand."""
    found = []
    for k, (_, gaps) in enumerate(lock):
        for here, there, price, ways in gaps:
            if here == stand[k] and any(way == stand[:k] for way in ways):
                found.append((k, there, price))
    return sorted(found)


def behind(stand, k, to):
    """The stand behind a step."""
    return stand[:k] + (to,) + stand[k + 1:]


def meets(stand, wish):
    """Whether a stand meets a wish."""
    return all(want is None or want == place for want, place in zip(wish, stand))


def prices(lock, starts):
    """The least price from some of the starts to each stand that can be come to."""
    best = {stand: 0 for stand in starts}
    queue = [(0, stand) for stand in sorted(starts)]
    while queue:
        paid, stand = heappop(queue)
        if paid > best[stand]:
            continue
        for k, to, price in steps(lock, stand):
            there = behind(stand, k, to)
            if paid + price < best.get(there, paid + price + 1):
                best[there] = paid + price
                heappush(queue, (paid + price, there))
    return best


def least(lock, row):
    """The least price of a way that meets a row: a walk over stands and how many wishes are met."""
    everywhere = stands(lock)
    best = {}
    queue = []

    def come(stand, met, paid):
        while met < len(row) and meets(stand, row[met]):
            met += 1
        if paid < best.get((stand, met), paid + 1):
            best[(stand, met)] = paid
            heappush(queue, (paid, stand, met))

    for stand in everywhere:
        if meets(stand, row[0]):
            come(stand, 0, 0)
    while queue:
        paid, stand, met = heappop(queue)
        if met == len(row):
            return paid
        if paid == best[(stand, met)]:
            for k, to, price in steps(lock, stand):
                come(behind(stand, k, to), met, paid + price)
    return None


def least_ways(lock, stand, wish):
    """A tuple (first steps, count) of the least ways from a stand to a wish."""
    best = prices(lock, [stand])
    ends = [there for there in best if meets(there, wish)]
    if not ends:
        return [], 0
    price = min(best[there] for there in ends)
    counts = {}
    firsts = {}
    for there in sorted(best, key=lambda one: -best[one]):
        if best[there] > price:
            continue
        counts[there] = 1 if best[there] == price and there in ends else 0
        firsts[there] = []
        for k, to, cost in steps(lock, there):
            after = behind(there, k, to)
            if best[after] == best[there] + cost and counts.get(after):
                counts[there] += counts[after]
                firsts[there].append((k, to))
    return firsts[stand], counts[stand]
