"""Things of all kinds that may be handed in where a refusal is told."""

from tests.makers import line_lock, random_lock, ring_lock


def deep(many, kind):
    """A thing that is so many deep, each a tuple, a list or a dict of the one below."""
    thing = 0
    for _ in range(many):
        thing = {1: thing} if kind == "dict" else [thing] if kind == "list" else (thing,)
    return thing


def plain_things():
    """Things that are no lock, stand, wish, row, list of steps, price or most."""
    return [
        None, True, False, -1, -10 ** 299, "", "lock", "0,0", (), {}, {0: 0}, {(0,): None}, (None,), (True,),
        [None], [[]], ([],), ({},), ("",), (0, [1]), (0, {}), ((),), ((), ()), [0, 0], [(0,)], [{}],
        deep(14, "tuple"), deep(14, "list"), deep(14, "dict"), (deep(13, "list"),), (deep(12, "dict"), None),
        tuple(range(50000)), list(range(50000)), {n: n for n in range(25000)}, ((),) * 49999, (None,) * 49999,
        book(3), book(31000), paper(40001),
    ]


def book(many):
    """A book by its form, of so many parts."""
    return tuple([((0,), (1,), (("step", 0, 1),))] * many)


def paper(many):
    """A paper by its form, of so many rows."""
    return {((n,), (n + 1,)): n + 1 for n in range(many)}


def near_locks():
    """Locks with one thing otherwise, so that each is none."""
    lock = ring_lock(3)
    near = [list(lock), lock + (None,), (None,) + lock, lock[1:], lock[:2] + (list(lock[2]),)]
    many, gaps = lock[1]
    gap = gaps[0]
    bolts = [
        (many,), (many, gaps, ()), (True, gaps), (1, ()), (5, gaps), (None, gaps), ("2", gaps), (many, list(gaps)),
        (many, gaps[::-1]), (many, gaps + gaps[:1]), (many, (None,)), (many, None), (many, (gap[:3],)),
        (many, (gap + (0,),)), (many, (list(gap),)), (10 ** 299, gaps),
    ]
    gaps = [
        (0, 0, 1, ()), (0, True, 1, ()), (False, 1, 1, ()), (0, 2, 1, ()), (-1, 1, 1, ()), (None, 1, 1, ()),
        (0, 1, 0, ()), (0, 1, 1000001, ()), (0, 1, True, ()), (0, 1, None, ()), (0, 1, "1", ()), (0, 1, -1, ()),
        (0, 1, 10 ** 299, ()), (0, 1, 1, None), (0, 1, 1, []), (0, 1, 1, [(0,)]), (0, 1, 1, ((),)),
        (0, 1, 1, ((0, 0),)), (0, 1, 1, ((2,),)), (0, 1, 1, ((-1,),)), (0, 1, 1, ((True,),)), (0, 1, 1, ((None,),)),
        (0, 1, 1, ([0],)), (0, 1, 1, (0,)), (0, 1, 1, ((1,), (0,))), (0, 1, 1, ((0,), (0,))), (0, 1, 1, ("0",)),
        (0, 1, 1, (deep(12, "tuple"),)), (0, 1, 1, ({},)), ([], 1, 1, ()), ({}, 1, 1, ()),
    ]
    bolts += [(2, (gap,)) for gap in gaps]
    return near + [(lock[0], bolt, lock[2]) for bolt in bolts]


def near_stands(lock, stand):
    """Stands of the lock with one thing otherwise, so that each is none."""
    near = [list(stand), stand + (0,), stand[:-1], (stand,), dict(enumerate(stand)), stand + (None,)]
    for k in (0, len(stand) - 1):
        for place in (-1, lock[k][0], True, False, None, "0", (0,), [0], {}, 10 ** 299):
            near.append(stand[:k] + (place,) + stand[k + 1:])
    return near


def near_wishes(lock, wish):
    """Wishes of the lock with one thing otherwise, so that each is none."""
    return [near for near in near_stands(lock, wish) if not isinstance(near, tuple) or len(near) != len(wish)
            or any(place is not None and (isinstance(place, bool) or not isinstance(place, int) or not
                                          0 <= place < bolt[0]) for place, bolt in zip(near, lock))]


def locks():
    """Some locks, small and great."""
    return [
        ((2, ()),), ring_lock(3), line_lock([4, 3, 2]), line_lock([2, 3, 4] * 20), random_lock(5, many=4),
        random_lock(6, manys=[4] * 60, greatest=1000000, both=True),
    ]
