"""Locks that the tests are done with."""

import random


def ring_lock(many, price=1):
    """Rings: bolt k turns only while bolt k - 1 is at 1 and all lower ones at 0."""
    bolts = []
    for k in range(many):
        word = (0,) * (k - 1) + (1,) if k else ()
        bolts.append((2, ((0, 1, price, (word,)), (1, 0, price, (word,)))))
    return tuple(bolts)


def line_lock(manys, prices=None):
    """A lock whose stands lie in one row: each bolt steps while those below are at one end of their row."""
    bolts = []
    low, high = (), ()
    for k, many in enumerate(manys):
        price = prices[k] if prices else 1
        gaps = []
        for place in range(many - 1):
            word = high if place % 2 == 0 else low
            gaps.append((place, place + 1, price, (word,)))
            gaps.append((place + 1, place, price, (word,)))
        bolts.append((many, tuple(sorted(gaps))))
        low, high = low + (0,), (high if many % 2 else low) + (many - 1,)
    return tuple(bolts)


def line_place(manys, stand):
    """The number, from 0, of a stand in the row of line_lock's stands."""
    place = 0
    size = 1
    for many, at in zip(manys, stand):
        place = at * size + (place if at % 2 == 0 else size - 1 - place)
        size *= many
    return place


def line_stand(manys, place):
    """The stand that is at a place of the row of line_lock's stands."""
    sizes = [1]
    for many in manys:
        sizes.append(sizes[-1] * many)
    stand = []
    for size, many in reversed(list(zip(sizes, manys))):
        at, place = divmod(place, size)
        if at % 2:
            place = size - 1 - place
        stand.append(at)
    return tuple(reversed(stand))


def fork_lock(many):
    """Each bolt goes from 0 to 3 by 1 or by 2, first while those below are at 3, 0 .. 0, then while at 0 .. 0."""
    bolts = []
    for k in range(many):
        near = (0,) * k
        far = (0,) * (k - 1) + (3,) if k else ()
        gaps = [(0, 1, 1, (far,)), (0, 2, 1, (far,)), (1, 3, 1, (near,)), (2, 3, 1, (near,))]
        gaps += [(3, 1, 1, (far,)), (3, 2, 1, (far,)), (1, 0, 1, (near,)), (2, 0, 1, (near,))]
        bolts.append((4, tuple(sorted(gaps))))
    return tuple(bolts)


def ladder_lock(many):
    """Each bolt goes from 0 to 3 by 1 or by 2, while all those below are at 3."""
    bolts = []
    for k in range(many):
        far = (3,) * k
        bolts.append((4, ((0, 1, 1, (far,)), (0, 2, 1, (far,)), (1, 3, 1, (far,)), (2, 3, 1, (far,)))))
    return tuple(bolts)


def random_words(rng, manys, count):
    """Some stands of bolts that have so many places."""
    return [tuple(rng.randrange(many) for many in manys) for _ in range(count)]


def random_bolt(rng, many, words, greatest, both):
    """A bolt whose ways are some of the words; with both, it can come from each place to each."""
    gaps = {}
    left = rng.randint(0, 8)
    if both:
        order = rng.sample(range(many), many)
        for n in range(1, many):
            one, other, word = order[n], rng.choice(order[:n]), rng.choice(words)
            for pair in ((one, other), (other, one)):
                gaps[pair] = (rng.randint(1, greatest), {word})
        left = 8 - 2 * (many - 1)
    while left > 0:
        pair = tuple(rng.sample(range(many), 2))
        gaps.setdefault(pair, (rng.randint(1, greatest), set()))[1].add(rng.choice(words))
        left -= 1
    if rng.random() < 0.2:
        gaps.setdefault(tuple(rng.sample(range(many), 2)), (1, set()))
    return many, tuple(pair + (price, tuple(sorted(ways))) for pair, (price, ways) in sorted(gaps.items()))


def random_lock(seed, many=None, greatest=3, both=False, manys=None):
    """A lock made by a seed; its words are cut from eight stands at most, so they are never too many."""
    rng = random.Random(seed)
    if manys is None:
        manys = [rng.randint(2, 4) for _ in range(many)]
    words = random_words(rng, manys, rng.randint(1, 8))
    return tuple(
        random_bolt(rng, manys[k], [word[:k] for word in words], greatest, both) for k in range(len(manys))
    )


def random_wish(rng, lock, none=0.4):
    """A wish of the lock, with None at about so great a part of its bolts."""
    return tuple(None if rng.random() < none else rng.randrange(bolt[0]) for bolt in lock)


def random_stand(rng, lock):
    """A stand of the lock."""
    return random_wish(rng, lock, none=0)


def both_ways(lock):
    """The lock with gaps put in and ways taken out, so that each gap has one back with just the same ways."""
    bolts = []
    for k, (many, gaps) in enumerate(lock):
        told = {}
        left = 8
        for here, there, price, ways in gaps:
            if (here, there) not in told:
                some = ways[:left // 2]
                left -= 2 * len(some)
                told[(here, there)] = (price, some)
                told[(there, here)] = (price + k % 2, some)
        bolts.append((many, tuple(pair + told[pair] for pair in sorted(told))))
    return tuple(bolts)
