"""Points 28 and 29: lean locks, and locks held beside one another."""

import random
import unittest

from tests import anything, plain
from tests.makers import fork_lock, ladder_lock, line_lock, random_lock, random_wish, ring_lock
from waitbolts import errors
from waitbolts.changes import is_within, out_gap, out_way, priced, put_gap, put_way, turned
from waitbolts.lean import alike, lean, needless
from waitbolts.least import least
from waitbolts.locks import fault_of


def detour(price):
    """A lowest bolt that comes from 0 to 2 by 1 for five, or straight on for a price."""
    return ((3, ((0, 1, 2, ((),)), (0, 2, price, ((),)), (1, 2, 3, ((),)))),)


def around(price):
    """A bolt that goes from 0 to 1 for a price, or by 2 for two, while the one below is led about for six."""
    low = (2, ((0, 1, 4, ((),)), (1, 0, 2, ((),))))
    return low, (3, ((0, 1, price, ((0,),)), (0, 2, 1, ((1,),)), (2, 1, 1, ((0,), (1,)))))


class NeedlessTest(unittest.TestCase):
    def test_another_way_for_just_the_price(self):
        self.assertEqual(needless(detour(4)), [])
        self.assertEqual(needless(detour(5)), [(0, 0, 2, ())])
        self.assertEqual(needless(detour(6)), [(0, 0, 2, ())])

    def test_other_ways_that_bring_those_below_about(self):
        self.assertEqual(needless(around(7)), [])
        self.assertEqual(needless(around(8)), [(1, 0, 1, (0,))])
        self.assertEqual(needless(around(9)), [(1, 0, 1, (0,))])

    def test_one_way_of_a_gap_may_be_needless_alone(self):
        low = (2, ((0, 1, 1, ((),)), (1, 0, 1, ((),))))
        lock = low, (2, ((0, 1, 5, ((0,), (1,))),))
        self.assertEqual(needless(lock), [])
        # Beside a cheap gap that leads there at one word alone.
        lock = low, (3, ((0, 1, 5, ((0,), (1,))), (0, 2, 1, ((1,),)), (2, 1, 2, ((1,),))))
        self.assertEqual(needless(lock), [(1, 0, 1, (0,)), (1, 0, 1, (1,))])
        lock = low, (3, ((0, 1, 4, ((0,), (1,))), (0, 2, 1, ((1,),)), (2, 1, 2, ((1,),))))
        self.assertEqual(needless(lock), [(1, 0, 1, (1,))])

    def test_two_that_do_for_each_other(self):
        # Of ways that cost as much, the single steps of each are cheaper than the gap.
        lock = ((4, ((0, 1, 1, ((),)), (0, 2, 2, ((),)), (0, 3, 3, ((),)), (1, 2, 1, ((),)), (2, 3, 1, ((),)))),)
        self.assertEqual(needless(lock), [(0, 0, 2, ()), (0, 0, 3, ())])
        self.assertEqual(lean(lock), ((4, ((0, 1, 1, ((),)), (1, 2, 1, ((),)), (2, 3, 1, ((),)))),))

    def test_bolts_above_never_matter(self):
        top = (2, ((0, 1, 1, ((0, 0), (1, 1))),))
        for price in (7, 8):
            self.assertEqual(needless(around(price) + (top,)), needless(around(price)))

    def test_rising(self):
        for seed in range(100):
            told = needless(random_lock(seed, many=5))
            self.assertEqual(told, sorted(told))

    def test_beside_walks_without_the_way(self):
        count = 0
        for seed in range(150):
            rng = random.Random(seed)
            lock = random_lock(seed, many=rng.randint(1, 4), greatest=rng.choice([1, 3, 9]), both=seed % 3 > 0)
            told = needless(lock)
            self.assertEqual(told, plain.needless(lock))
            count += len(told)
        self.assertTrue(count > 20)

    def test_great_locks_without_needless_ways(self):
        for lock in (line_lock([4] * 60), ring_lock(60), fork_lock(60), ladder_lock(60)):
            self.assertEqual(needless(lock), [])
            self.assertEqual(lean(lock), lock)

    def test_one_needless_way_high_up(self):
        # Bolt 9 comes from 0 to 1 at one end of the row below, on to 2 at the other one, and the row is gone back.
        end = (0,) * 8 + (1,)
        around = 1 + 511 + 1 + 511
        rows = put_way(put_gap(line_lock([2] * 9 + [3] + [2] * 50), 9, 0, 2, 1), 9, 0, 2, end)
        for price, told in ((1, []), (around - 1, []), (around, [(9, 0, 2, end)]), (1000000, [(9, 0, 2, end)])):
            self.assertEqual(needless(priced(rows, 9, 0, 2, price)), told)
        self.assertEqual(lean(priced(rows, 9, 0, 2, around)), line_lock([2] * 9 + [3] + [2] * 50))

    def test_refused(self):
        for thing in anything.near_locks() + anything.plain_things():
            for ask in (needless, lean):
                with self.assertRaises(errors.NoLock) as caught:
                    ask(thing)
                self.assertEqual(caught.exception.fault, fault_of(thing))


class LeanTest(unittest.TestCase):
    def test_gaps_without_ways(self):
        self.assertEqual(lean(((3, ((0, 1, 1, ()), (1, 0, 2, ((),)))),)), ((3, ((1, 0, 2, ((),)),)),))
        self.assertEqual(lean(((2, ()), (2, ((0, 1, 1, ()),)))), ((2, ()), (2, ())))
        # One that has none any more.
        self.assertEqual(lean(detour(5)), ((3, ((0, 1, 2, ((),)), (1, 2, 3, ((),)))),))
        self.assertEqual(lean(detour(4)), detour(4))
        self.assertEqual(lean(around(8))[1], (3, ((0, 2, 1, ((1,),)), (2, 1, 1, ((0,), (1,))))))

    def test_all_least_prices_stay(self):
        for seed in range(80):
            lock = random_lock(seed, many=3, both=seed % 2 > 0)
            told = lean(lock)
            self.assertIs(fault_of(told), None)
            self.assertIs(is_within(lock, told), True)
            self.assertEqual(plain.all_prices(told), plain.all_prices(lock))
            self.assertEqual(needless(told), [])
            self.assertEqual(lean(told), told)
            self.assertEqual(lean(turned(lock)), turned(told))

    def test_rows_of_great_locks(self):
        for seed in range(8):
            rng = random.Random(seed)
            lock = random_lock(seed, manys=[rng.randint(2, 4) for _ in range(60)], greatest=5, both=True)
            told = lean(lock)
            self.assertNotEqual(told, lock)
            self.assertEqual(needless(told), [])
            for many in (2, 3, 4):
                row = tuple(random_wish(rng, lock) for _ in range(many))
                self.assertEqual(least(told, row), least(lock, row))

    def test_without_each_other_way_some_price_is_more(self):
        for seed in range(30):
            lock = lean(random_lock(seed, many=3, both=True))
            for k, here, there in plain.gaps(lock):
                [ways] = [gap[3] for gap in lock[k][1] if gap[:2] == (here, there)]
                for way in ways:
                    less = out_way(lock, k, here, there, way)
                    above = (0,) * (len(lock) - k - 1)
                    row = way + (here,) + above, way + (there,) + above
                    price = least(less, row)
                    self.assertTrue(price is None or price > least(lock, row))


class AlikeTest(unittest.TestCase):
    def check(self, lock, second):
        """Hold what alike tells beside the least prices of both."""
        told = alike(lock, second)
        same = plain.all_prices(lock) == plain.all_prices(second)
        self.assertIs(told is None, same)
        self.assertIs(lean(lock) == lean(second), same)
        if told is not None:
            one, other, price, others = told
            self.assertEqual([type(thing) for thing in told[:2]], [tuple, tuple])
            self.assertEqual(plain.prices(lock, [one]).get(other), price)
            self.assertEqual(plain.prices(second, [one]).get(other), others)
            self.assertNotEqual(price, others)
        return same

    def test_locks_whose_lean_ones_are_one(self):
        self.assertIs(alike(detour(5), detour(9)), None)
        self.assertIs(alike(detour(7), lean(detour(5))), None)
        self.assertIs(alike(detour(3), detour(3)), None)
        self.assertIs(alike(put_gap(detour(3), 0, 2, 0, 1), detour(3)), None)

    def test_prices_told(self):
        self.assertEqual(alike(detour(3), detour(4)), ((0,), (2,), 3, 4))
        self.assertEqual(alike(detour(9), detour(4)), ((0,), (2,), 5, 4))
        less = out_gap(detour(4), 0, 0, 2)
        self.assertEqual(alike(less, detour(4)), ((0,), (2,), 5, 4))
        none = out_gap(out_gap(detour(4), 0, 0, 2), 0, 1, 2)
        one, other, price, second = alike(detour(4), none)
        self.assertEqual((other, second), ((2,), None))
        self.assertEqual(price, {(0,): 4, (1,): 3}[one])
        self.assertEqual(alike(((2, ()),), ((2, ((0, 1, 7, ((),)),)),)), ((0,), (1,), None, 7))

    def test_beside_all_prices(self):
        same = 0
        for seed in range(120):
            rng = random.Random(seed)
            lock = random_lock(seed, many=3, both=seed % 2 > 0)
            second = lock
            for gap in rng.sample(plain.gaps(lock), min(len(plain.gaps(lock)), rng.randint(0, 2))):
                second = plain.with_gap(second, gap, lambda price, ways: (
                    max(1, price + rng.randint(-1, 2)), ways[rng.randint(0, 1):]
                ))
            same += self.check(lock, second)
            same += self.check(second, lean(lock))
        self.assertTrue(30 < same < 210)
        for seed in range(40):
            manys = [random.Random(seed).randint(2, 3) for _ in range(3)]
            self.check(random_lock(seed, manys=manys), random_lock(seed + 1000, manys=manys))

    def test_great_locks(self):
        for seed in range(10):
            rng = random.Random(seed)
            lock = random_lock(seed, manys=[3] * 60, greatest=9, both=True)
            self.assertIs(alike(lock, lean(lock)), None)
            self.assertIs(alike(lean(lock), lock), None)
            k, here, there = rng.choice(plain.gaps(lean(lock)))
            second = priced(lock, k, here, there, 1000000)
            one, other, price, others = alike(lock, second)
            self.assertEqual((price, others), (least(lock, (one, other)), least(second, (one, other))))
            self.assertNotEqual(price, others)
        lock = line_lock([4] * 60)
        self.assertIs(alike(lock, lock), None)
        one, other, price, others = alike(lock, out_gap(lock, 59, 3, 2))
        self.assertEqual((price, others), (1, None))
        self.assertEqual(one[:59], other[:59])

    def test_refusals_in_their_order(self):
        for thing in anything.near_locks() + anything.plain_things():
            for given in ((thing, None), (detour(5), thing), (ring_lock(60), thing)):
                with self.assertRaises(errors.NoLock) as caught:
                    alike(*given)
                self.assertEqual(caught.exception.fault, fault_of(thing))
        lock = ring_lock(3)
        for second in (ring_lock(2), ring_lock(4), line_lock([2, 2, 3]), line_lock([3, 2, 2]), ((2, ()), (2, ()))):
            for given in ((lock, second), (second, lock)):
                with self.assertRaises(errors.Unlike):
                    alike(*given)


if __name__ == "__main__":
    unittest.main()
