"""Points 31 and 32: stands that are together, and what parts them."""

import random
import unittest

from tests import anything, plain
from tests.makers import both_ways, line_lock, line_stand, random_lock, random_stand, ring_lock
from waitbolts import errors
from waitbolts.changes import lower, out_gap, put_gap, put_way, upon
from waitbolts.least import least
from waitbolts.locks import fault_of, stands_of
from waitbolts.parts import apart, parts, size, together
from waitbolts.reach import come_to, coming

# The bolt above goes between 0 and 1 while the lowest one is at 1, whose places 2 and 3 are apart from the others.
LOCK = (
    (4, ((0, 1, 1, ((),)), (1, 0, 7, ((),)), (2, 3, 1, ((),)), (3, 2, 1, ((),)))),
    (3, ((0, 1, 1, ((1,),)), (1, 0, 2, ((1,),)), (1, 2, 3, ()), (2, 1, 1, ()))),
)


def cut(lock, k, here):
    """The lock without bolt k's gaps between a place and the next one."""
    return out_gap(out_gap(lock, k, here, here + 1), k, here + 1, here)


class TogetherTest(unittest.TestCase):
    def test_two_bolts(self):
        self.assertIs(together(LOCK, (0, 0), (0, 0)), True)
        self.assertIs(together(LOCK, (0, 0), (0, 1)), True)
        self.assertIs(together(LOCK, (0, 0), (1, 2)), False)
        self.assertIs(together(LOCK, (0, 2), (1, 2)), True)
        self.assertIs(together(LOCK, (2, 0), (3, 0)), True)
        self.assertIs(together(LOCK, (2, 0), (3, 1)), False)
        self.assertIs(together(LOCK, (0, 0), (2, 0)), False)
        self.assertEqual([size(LOCK, stand) for stand in ((0, 0), (1, 1), (0, 2), (2, 0), (3, 2))], [4, 4, 2, 2, 2])
        self.assertEqual(parts(LOCK), [(2, 4), (4, 1)])

    def test_locks_that_never_step(self):
        for manys in ([2], [3, 4], [4] * 60):
            lock = tuple((many, ()) for many in manys)
            one = (0,) * len(manys)
            self.assertEqual(parts(lock), [(1, stands_of(lock))])
            self.assertEqual(size(lock, one), 1)
            self.assertIs(together(lock, one, one), True)
            self.assertIs(together(lock, one, one[:-1] + (1,)), False)
            self.assertEqual(apart(lock, one, one[:-1] + (1,)), (len(manys) - 1, [0]))

    def test_beside_walks_through_all_stands(self):
        many = set()
        for seed in range(150):
            rng = random.Random(seed)
            lock = both_ways(random_lock(seed, many=rng.randint(1, 4)))
            self.assertIs(fault_of(lock), None)
            near = {stand: frozenset(plain.prices(lock, [stand])) for stand in plain.stands(lock)}
            sizes = [len(part) for part in set(near.values())]
            self.assertEqual(parts(lock), sorted((count, sizes.count(count)) for count in set(sizes)))
            many.update(sizes)
            for _ in range(8):
                one, other = random_stand(rng, lock), random_stand(rng, lock)
                if rng.random() < 0.5:
                    other = rng.choice(sorted(near[one]))
                self.assertEqual(size(lock, one), len(near[one]))
                self.assertIs(together(lock, one, other), other in near[one])
        self.assertTrue(len(many) > 12)

    def test_great_rows(self):
        manys = [2, 3, 4] * 20
        lock = line_lock(manys)
        count = stands_of(lock)
        self.assertEqual(parts(lock), [(count, 1)])
        self.assertEqual(size(lock, line_stand(manys, 12345)), count)
        self.assertIs(together(lock, line_stand(manys, 0), line_stand(manys, count - 1)), True)

    def test_great_rows_cut_high_up(self):
        manys = [3] * 60
        low = 3 ** 59
        lock = cut(line_lock(manys), 59, 1)
        self.assertEqual(parts(lock), [(low, 1), (2 * low, 1)])
        one, other = line_stand(manys, 2 * low - 1), line_stand(manys, 2 * low)
        self.assertIs(together(lock, one, other), False)
        self.assertEqual([size(lock, one), size(lock, other)], [2 * low, low])
        self.assertEqual(apart(lock, one, other), (59, [0, 1]))
        self.assertEqual(apart(lock, other, one), (59, [2]))
        self.assertIs(together(lock, line_stand(manys, 0), one), True)

    def test_great_rows_cut_below(self):
        # Bolt 0 cut between 1 and 2: from the one end the bolt above goes between 1 and 2, from the other 0 and 1.
        manys = [3] * 60
        lock = cut(line_lock(manys), 0, 1)
        told = parts(lock)
        self.assertEqual(sum(count * many for count, many in told), 3 ** 60)
        self.assertEqual(parts(lower(lock, 1)), [(1, 1), (2, 1)])
        self.assertEqual(parts(lower(lock, 2)), [(1, 1), (2, 2), (4, 1)])
        self.assertEqual(apart(lock, (0,) * 60, (2,) + (0,) * 59), (0, [0, 1]))
        self.assertEqual(apart(lock, (2,) + (0,) * 59, (1,) * 60), (0, [2]))
        stand = (0,) * 60
        self.assertEqual(size(lock, stand), coming(lock, stand))

    def test_as_least_and_the_counts_tell(self):
        both = set()
        for seed in range(12):
            rng = random.Random(seed)
            lock = both_ways(random_lock(seed, manys=[rng.randint(2, 4) for _ in range(60)], both=seed % 2 > 0))
            one, other = random_stand(rng, lock), random_stand(rng, lock)
            self.assertEqual(size(lock, one), coming(lock, one))
            self.assertEqual(size(lock, one), come_to(lock, one))
            self.assertEqual(sum(count * many for count, many in parts(lock)), stands_of(lock))
            near = dict(parts(lock))
            self.assertIn(size(lock, one), near)
            for k in range(0, 61, 4):
                stand = one[:k] + other[k:]
                told = together(lock, one, stand)
                self.assertIs(told, least(lock, (one, stand)) is not None)
                self.assertIs(told, apart(lock, one, stand) is None)
                both.add(told)
        self.assertEqual(both, {True, False})

    def test_a_lock_upon_another(self):
        low = line_lock([4, 2])
        lock = upon(low, low, (0, 0))
        self.assertEqual(parts(lock), [(64, 1)])
        lock = upon(cut(low, 1, 0), low, (0, 0))
        self.assertEqual(parts(lock), [(4, 8), (32, 1)])


class OneWayTest(unittest.TestCase):
    ASKS = [
        lambda lock: parts(lock), lambda lock: size(lock, None), lambda lock: together(lock, None, None),
        lambda lock: apart(lock, None, None),
    ]

    def told(self, lock):
        """What all functions tell of a lock with a gap that has none back."""
        told = set()
        for ask in self.ASKS:
            with self.assertRaises(errors.OneWay) as caught:
                ask(lock)
            told.add(caught.exception.bolt)
        self.assertEqual(len(told), 1)
        return told.pop()

    def test_the_first_bolt_with_such_a_gap(self):
        self.assertEqual(self.told(out_gap(LOCK, 0, 2, 3)), 0)
        self.assertEqual(self.told(out_gap(LOCK, 1, 0, 1)), 1)
        self.assertEqual(self.told(out_gap(out_gap(LOCK, 1, 0, 1), 0, 0, 1)), 0)
        ring = ring_lock(60)
        self.assertEqual(self.told(out_gap(ring, 59, 0, 1)), 59)
        self.assertEqual(self.told(out_gap(out_gap(ring, 59, 0, 1), 7, 1, 0)), 7)

    def test_a_gap_without_ways_wants_one_back(self):
        self.assertEqual(self.told(out_gap(LOCK, 1, 1, 2)), 1)
        self.assertEqual(self.told(put_gap(LOCK, 0, 0, 2, 5)), 0)
        lock = put_gap(put_gap(LOCK, 0, 0, 2, 5), 0, 2, 0, 6)
        self.assertEqual(parts(lock), parts(LOCK))
        self.assertEqual(self.told(put_way(lock, 0, 2, 0, ())), 0)

    def test_other_ways_back(self):
        self.assertEqual(self.told(put_way(LOCK, 1, 1, 0, (2,))), 1)
        self.assertEqual(self.told(put_way(LOCK, 1, 2, 1, (2,))), 1)
        self.assertEqual(self.told(put_way(put_way(LOCK, 1, 2, 1, (2,)), 1, 1, 2, (3,))), 1)
        lock = put_way(put_way(LOCK, 1, 2, 1, (2,)), 1, 1, 2, (2,))
        self.assertEqual(parts(lock), [(2, 2), (4, 2)])

    def test_other_prices_back(self):
        self.assertEqual([gap[2] for gap in LOCK[0][1]], [1, 7, 1, 1])
        self.assertIs(together(LOCK, (0, 0), (1, 1)), True)


class ApartTest(unittest.TestCase):
    def test_by_the_lowest_and_by_the_highest(self):
        self.assertIs(apart(LOCK, (0, 0), (1, 1)), None)
        self.assertEqual(apart(LOCK, (0, 0), (2, 0)), (0, [0, 1]))
        self.assertEqual(apart(LOCK, (3, 1), (0, 1)), (0, [2, 3]))
        self.assertEqual(apart(LOCK, (0, 0), (1, 2)), (1, [0, 1]))
        self.assertEqual(apart(LOCK, (0, 2), (1, 1)), (1, [2]))
        self.assertEqual(apart(LOCK, (2, 0), (3, 2)), (1, [0]))

    def test_beside_walks_through_the_lower_locks(self):
        told_by = set()
        for seed in range(150):
            rng = random.Random(seed)
            lock = both_ways(random_lock(seed, many=rng.randint(1, 4), both=seed % 2 > 0))
            for _ in range(8):
                one, other = random_stand(rng, lock), random_stand(rng, lock)
                wanted = None
                for k in range(len(lock)):
                    near = plain.prices(lock[:k + 1], [one[:k + 1]])
                    if other[:k + 1] not in near:
                        wanted = k, sorted({stand[k] for stand in near})
                        break
                self.assertEqual(apart(lock, one, other), wanted)
                told_by.add(wanted and wanted[0])
        self.assertEqual(told_by, {None, 0, 1, 2, 3})

    def test_kinds(self):
        told = apart(LOCK, (0, 0), (2, 0))
        self.assertEqual([type(told), type(told[1])], [tuple, list])
        told[1].clear()
        self.assertEqual(apart(LOCK, (0, 0), (2, 0)), (0, [0, 1]))
        told = parts(LOCK)
        self.assertEqual([type(told), type(told[0])], [list, tuple])

    def test_refusals_in_their_order(self):
        things = anything.near_stands(LOCK, (0, 0)) + anything.plain_things()
        for thing in things:
            for given in ((together, thing, None), (together, (0, 0), thing), (apart, thing, None), (apart, (0, 0), thing)):
                with self.assertRaises(errors.NoStand):
                    given[0](LOCK, *given[1:])
            with self.assertRaises(errors.NoStand):
                size(LOCK, thing)
        # The lock goes first, then its gaps, then the stands.
        for ask in (together, apart):
            with self.assertRaises(errors.NoLock):
                ask(LOCK[1:], None, None)
        for lock in anything.near_locks():
            with self.assertRaises(errors.NoLock) as caught:
                parts(lock)
            self.assertEqual(caught.exception.fault, fault_of(lock))


if __name__ == "__main__":
    unittest.main()
