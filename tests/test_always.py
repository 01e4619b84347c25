"""Points 21 to 23: what holds of all least ways that meet a row of wishes."""

import random
import unittest

from tests import anything, plain
from tests.makers import fork_lock, ladder_lock, line_lock, line_place, random_lock, random_stand, random_wish, ring_lock
from waitbolts.always import lengths, needed, spans, uses
from waitbolts.books import told_way, weighed
from waitbolts.errors import NoGap, NoLock, NoWishes, TooWide
from waitbolts.least import least
from waitbolts.readings import moves

# From 0 to 3 by 1 and 2 for six in all, or at once.
ROUND = ((4, ((0, 1, 1, ((),)), (0, 3, 6, ((),)), (1, 2, 2, ((),)), (2, 3, 3, ((),)))),)
GOAL = ((0,), (3,))


def choices(prices):
    """A lock and a row: each bolt goes up for its price, or in two steps, between which the lowest one goes up and back.

    The least price where the lowest one's way up costs x is the sum, bolt by
    bolt, of the lesser one of its price and x + 3.
    """
    bolts = [(2, ((0, 1, 1, ((),)), (1, 0, 1, ((),))))]
    for k, price in enumerate(prices):
        low, high = (0,) + (1,) * k, (1,) + (1,) * k
        bolts.append((3, ((0, 1, price, (low,)), (0, 2, 1, (high,)), (2, 1, 1, (low,)))))
    return tuple(bolts), ((0,) * len(bolts), (0,) + (1,) * len(prices))


class UsesTest(unittest.TestCase):
    def test_ways_of_one_price(self):
        self.assertEqual(least(ROUND, GOAL), 6)
        self.assertEqual(uses(ROUND, GOAL, [(0, 0, 1)]), (0, 1))
        self.assertEqual(uses(ROUND, GOAL, [(0, 0, 3)]), (0, 1))
        self.assertEqual(uses(ROUND, GOAL, [(0, 0, 1), (0, 0, 3)]), (1, 1))
        self.assertEqual(uses(ROUND, GOAL, [(0, 1, 2), (0, 0, 1)]), (0, 2))
        self.assertEqual(uses(ROUND, ((1,), (3,)), [(0, 1, 2), (0, 0, 1)]), (1, 1))
        self.assertEqual(lengths(ROUND, GOAL), (1, 3))

    def test_no_gap_and_all_gaps(self):
        gaps = plain.gaps(ROUND)
        self.assertEqual(uses(ROUND, GOAL, []), (0, 0))
        self.assertEqual(uses(ROUND, GOAL, gaps), (1, 3))
        self.assertEqual(uses(ROUND, GOAL, gaps[::-1]), (1, 3))
        lock = random_lock(6, manys=[4] * 60, both=True)
        row = ((0,) * 60, (1,) * 60, (2,) * 60)
        self.assertEqual(uses(lock, row, plain.gaps(lock)), lengths(lock, row))
        self.assertEqual(uses(lock, row, []), (0, 0))

    def test_met_at_once_and_never(self):
        for lock in anything.locks():
            stand = (0,) * len(lock)
            for row in ((stand, stand), ((None,) * len(lock),) * 3):
                self.assertEqual(uses(lock, row, plain.gaps(lock)), (0, 0))
                self.assertEqual(lengths(lock, row), (0, 0))
        row = ((3,), (0,))
        self.assertIs(uses(ROUND, row, []), None)
        self.assertIs(uses(ROUND, row, plain.gaps(ROUND)), None)
        self.assertIs(lengths(ROUND, row), None)

    def test_beside_a_plain_walk(self):
        for seed in range(150):
            rng = random.Random(seed)
            lock = random_lock(seed, many=rng.randint(1, 4), greatest=rng.choice([1, 2, 3]), both=seed % 3 > 0)
            row = tuple(random_wish(rng, lock, none=0.4) for _ in range(rng.randint(2, 4)))
            gaps = plain.gaps(lock)
            some = [gap for gap in gaps if rng.random() < 0.5]
            for asked, told in ((some, uses(lock, row, some)), (gaps, lengths(lock, row))):
                found = plain.uses(lock, row, asked)
                self.assertEqual(told, None if found is None else found[1:], (lock, row, asked))

    def test_great_lines_have_one_way(self):
        manys = [2, 3, 4] * 20
        lock = line_lock(manys)
        rng = random.Random(2)
        row = tuple(random_stand(rng, lock) for _ in range(4))
        places = [line_place(manys, stand) for stand in row]
        count = sum(abs(one - other) for one, other in zip(places, places[1:]))
        self.assertEqual(lengths(lock, row), (count, count))
        by_bolt = moves(lock, told_way(lock, row))
        for k in (0, 1, 30, 59):
            gaps = [gap for gap in plain.gaps(lock) if gap[0] == k]
            self.assertEqual(uses(lock, row, gaps), (by_bolt[k], by_bolt[k]))
            parts = [uses(lock, row, [gap])[0] for gap in gaps]
            self.assertEqual(sum(parts), by_bolt[k])

    def test_great_locks_of_many_ways(self):
        many = 60
        row = ((0,) * many, (3,) * many)
        self.assertEqual(lengths(ladder_lock(many), row), (120, 120))
        self.assertEqual(uses(ladder_lock(many), row, [(7, 0, 1), (9, 1, 3), (20, 0, 1), (20, 0, 2)]), (1, 3))
        lock = fork_lock(many)
        row = ((0,) * many, (0,) * (many - 1) + (3,))
        count = least(lock, row)
        self.assertEqual(lengths(lock, row), (count, count))
        by_bolt = moves(lock, told_way(lock, row))
        ups = [(0, 0, 1), (0, 3, 1)]
        self.assertEqual(uses(lock, row, ups), (0, by_bolt[0] // 2))
        self.assertEqual(uses(lock, row, ups + [(0, 0, 2), (0, 3, 2)]), (by_bolt[0] // 2,) * 2)

    def test_a_told_way_is_one_of_them(self):
        for seed in range(3):
            rng = random.Random(seed)
            lock = random_lock(seed, manys=[4] * 60, greatest=2, both=True)
            row = tuple(random_wish(rng, lock, none=0.3) for _ in range(3))
            book = told_way(lock, row)
            fewest, most = lengths(lock, row)
            self.assertTrue(fewest <= weighed(lock, book)[3] <= most)
            by_bolt = moves(lock, book)
            for k in (0, 10, 40):
                fewest, most = uses(lock, row, [gap for gap in plain.gaps(lock) if gap[0] == k])
                self.assertTrue(fewest <= by_bolt[k] <= most)

    def test_no_gap(self):
        gap = (0, 0, 1)
        wrong = [
            gap, (gap,), {gap: True}, [gap, gap], [(0, 0, 2)], [(0, 1, 0)], [(1, 0, 1)], [(-1, 0, 1)], [(0, 0)],
            [(0, 0, 1, 1)], [[0, 0, 1]], [(False, 0, 1)], [(0, False, 1)], [(0, 0, True)], [(0, 0, None)], [gap, None],
            [("0", 0, 1)], [(0, 0, 10 ** 299)], [(0, 0, (1,))], [(0, 0, [1])], [({}, 0, 1)], None, True, "", [gap] * 50000,
        ]
        for thing in wrong + [thing for thing in anything.plain_things() if thing != []]:
            with self.assertRaises(NoGap):
                uses(ROUND, GOAL, thing)


class NeededTest(unittest.TestCase):
    def test_small(self):
        self.assertEqual(needed(ROUND, GOAL), [])
        self.assertEqual(needed(ROUND, ((1,), (3,))), [(0, 1, 2, (), None), (0, 2, 3, (), None)])
        lock = plain.priced(ROUND, (0, 0, 3), 8)
        self.assertEqual(needed(lock, GOAL), [(0, 0, 1, (), 8), (0, 1, 2, (), 8), (0, 2, 3, (), 8)])
        lock = plain.priced(ROUND, (0, 0, 3), 4)
        self.assertEqual(needed(lock, GOAL), [(0, 0, 3, (), 6)])

    def test_one_way_of_a_gap_for_another(self):
        # Without either way of the upper bolt's gap, the other one is gone.
        lock = ((3, ((0, 1, 1, ((),)), (0, 2, 5, ((),)))), (2, ((0, 1, 3, ((1,), (2,))),)))
        row = ((0, 0), (None, 1))
        self.assertEqual(least(lock, row), 4)
        self.assertEqual(needed(lock, row), [(0, 0, 1, (), 8), (1, 0, 1, (1,), 8)])

    def test_met_at_once_and_never(self):
        self.assertEqual(needed(ROUND, ((0,), (0,))), [])
        self.assertEqual(needed(ROUND, ((None,), (3,))), [])
        self.assertEqual(needed(ROUND, ((3,), (0,))), [])

    def test_beside_ways_taken_out(self):
        for seed in range(80):
            rng = random.Random(seed)
            lock = random_lock(seed, many=rng.randint(1, 4), greatest=rng.choice([1, 3, 100]), both=seed % 3 > 0)
            row = tuple(random_wish(rng, lock, none=0.4) for _ in range(rng.randint(2, 4)))
            price = plain.least(lock, row)
            found = []
            for k, (_, gaps) in enumerate(lock):
                for here, there, _, ways in gaps:
                    for way in ways if price is not None else ():
                        other = plain.least(plain.without_way(lock, (k, here, there), way), row)
                        if other != price:
                            found.append((k, here, there, way, other))
            self.assertEqual(needed(lock, row), found, (lock, row))

    def test_great(self):
        for seed, many in ((1, 2), (2, 3)):
            rng = random.Random(seed)
            lock = random_lock(seed, manys=[4, 3, 2] * 20, greatest=1000, both=True)
            row = tuple(random_wish(rng, lock, none=0.3) for _ in range(many))
            price = least(lock, row)
            told = needed(lock, row)
            self.assertEqual(told, sorted(told, key=lambda one: one[:4]))
            self.assertTrue(len(told) > 50)
            for k, here, there, way, other in rng.sample(told, 5):
                self.assertEqual(least(plain.without_way(lock, (k, here, there), way), row), other)
                self.assertTrue(other is None or other > price)
            ways = [(k, h, t, way) for k, (_, gaps) in enumerate(lock) for h, t, _, some in gaps for way in some]
            known = [one[:4] for one in told]
            for k, here, there, way in rng.sample([way for way in ways if way not in known], 5):
                self.assertEqual(least(plain.without_way(lock, (k, here, there), way), row), price)

    def test_great_lines(self):
        lock = line_lock([3] * 60)
        told = needed(lock, ((0,) * 60, (2,) * 60))
        # All gaps are wanted, but those of the highest bolt back.
        self.assertEqual(len(told), 4 * 59 + 2)
        self.assertTrue(all(one[4] is None for one in told))
        self.assertEqual([one[:3] for one in told[-2:]], [(59, 0, 1), (59, 1, 2)])


class SpansTest(unittest.TestCase):
    def test_small(self):
        self.assertEqual(spans(ROUND, GOAL, (0, 0, 3)), [(1, 1, 1), (6, 6, 0)])
        self.assertEqual(spans(ROUND, GOAL, (0, 1, 2)), [(1, 5, 1), (2, 6, 0)])
        self.assertEqual(spans(ROUND, ((1,), (3,)), (0, 1, 2)), [(1, 4, 1)])
        self.assertEqual(spans(ROUND, ((1,), (3,)), (0, 0, 1)), [(1, 5, 0)])

    def test_lines_that_cross_between_whole_numbers(self):
        # Twice x and five, or ten: they cross at two and a half.
        gaps = ((0, 1, 1, ((1,),)), (0, 3, 10, ((0,),)), (1, 2, 1, ((0,),)), (2, 3, 1, ((1,),)))
        lock = ((2, ((0, 1, 1, ((),)), (1, 0, 1, ((),)))), (4, gaps))
        self.assertEqual(spans(lock, ((0, 0), (0, 3)), (0, 0, 1)), [(1, 7, 2), (2, 9, 1), (3, 10, 0)])
        # They cross at two: nothing is between.
        lock = plain.priced(lock, (1, 0, 3), 9)
        self.assertEqual(spans(lock, ((0, 0), (0, 3)), (0, 0, 1)), [(1, 7, 2), (2, 9, 0)])

    def test_met_at_once_and_never(self):
        self.assertEqual(spans(ROUND, ((0,), (0,)), (0, 0, 1)), [(1, 0, 0)])
        self.assertEqual(spans(ROUND, ((3,), (0,)), (0, 0, 1)), [])
        lock = ((2, ((0, 1, 7, ((),)), (1, 0, 7, ()))),)
        self.assertEqual(spans(lock, ((0,), (1,)), (0, 1, 0)), [(1, 7, 0)])
        self.assertEqual(spans(lock, ((0,), (1,)), (0, 0, 1)), [(1, 1, 1)])
        self.assertEqual(spans(lock, ((1,), (0,)), (0, 1, 0)), [])

    def test_the_last_prices(self):
        for price, found in (
            (999998, [(1, 1, 1), (999998, 999998, 0)]), (999999, [(1, 1, 1), (999999, 999999, 0)]),
            (1000000, [(1, 1, 1)]), (1, [(1, 1, 0)]), (2, [(1, 1, 1), (2, 2, 0)]),
        ):
            lock = ((3, ((0, 1, 1, ((),)), (0, 2, price, ((),)))), (2, ((0, 1, 1, ((1,), (2,))),)))
            row = ((0, 0), (None, 1))
            self.assertEqual(spans(lock, row, (0, 0, 1)), [(x, paid + 1, by) for x, paid, by in found])

    def test_beside_prices_put_in(self):
        for seed in range(60):
            rng = random.Random(seed)
            lock = random_lock(seed, many=rng.randint(2, 4), greatest=rng.choice([3, 20]), both=seed % 3 > 0)
            row = tuple(random_wish(rng, lock, none=0.4) for _ in range(rng.randint(2, 4)))
            gaps = plain.gaps(lock)
            if gaps:
                self.check(lock, row, rng.choice(gaps))

    def check(self, lock, row, gap):
        told = spans(lock, row, gap)
        prices = [least(plain.priced(lock, gap, x), row) for x in range(1, 62)]
        if prices[0] is None:
            self.assertEqual(told, [])
            return
        found = []
        for x, (price, after) in enumerate(zip(prices, prices[1:]), start=1):
            if not found or found[-1][2] != after - price:
                found.append((x, price, after - price))
        self.assertEqual([span for span in told if span[0] <= 60], found, (lock, row, gap))
        for (x, price, by), behind in zip(told, [span[0] for span in told[1:]] + [1000000]):
            self.assertEqual(least(plain.priced(lock, gap, behind), row), price + by * (behind - x))

    def test_choices(self):
        lock, row = choices([10, 4, 30, 30])
        self.assertEqual(least(plain.priced(lock, (0, 0, 1), 5), row), 8 + 4 + 8 + 8)
        self.assertEqual(spans(lock, row, (0, 0, 1)), [(1, 16, 3), (7, 34, 2), (27, 74, 0)])
        self.assertEqual(spans(lock, row, (0, 0, 1)), self.by_hand([10, 4, 30, 30]))

    def by_hand(self, prices):
        """The spans of choices, price by price."""
        found = []
        for x in range(1, 1 + max(prices)):
            price = sum(min(one, x + 3) for one in prices)
            by = sum(min(one, x + 4) for one in prices) - price
            if not found or found[-1][2] != by:
                found.append((x, price, by))
        return found

    def test_forty_and_one_more(self):
        prices = [10 * n for n in range(1, 41)]
        lock, row = choices(prices[:39])
        told = spans(lock, row, (0, 0, 1))
        self.assertEqual(len(told), 40)
        self.assertEqual(told, self.by_hand(prices[:39]))
        lock, row = choices(prices)
        with self.assertRaises(TooWide):
            spans(lock, row, (0, 0, 1))
        lock, row = choices([300 * n for n in range(1, 60)])
        with self.assertRaises(TooWide):
            spans(lock, row, (0, 0, 1))

    def test_great(self):
        for seed, many in ((3, 2), (12, 4)):
            rng = random.Random(seed)
            lock = random_lock(seed, manys=[4] * 60, greatest=100, both=True)
            row = tuple(random_wish(rng, lock, none=0.3) for _ in range(many))
            gaps = [gap for gap in plain.gaps(lock) if gap[0] in (0, 30, 59)]
            for gap in rng.sample(gaps, 3):
                told = spans(lock, row, gap)
                rises = [by for _, _, by in told]
                self.assertEqual(rises, sorted(rises, reverse=True))
                self.assertEqual(len(set(rises)), len(rises))
                for x, price, by in told:
                    self.assertEqual(least(plain.priced(lock, gap, x), row), price)
                    self.assertEqual(least(plain.priced(lock, gap, x + 1), row), price + by)
                    if x > 1:
                        self.assertGreater(price - least(plain.priced(lock, gap, x - 1), row), by)

    def test_great_lines(self):
        lock = line_lock([2] * 60)
        row = ((0,) * 60, (0,) * 59 + (1,))
        count = least(lock, row)
        for gap in ((0, 0, 1), (0, 1, 0), (58, 0, 1), (59, 0, 1), (59, 1, 0)):
            often = uses(lock, row, [gap])[0]
            self.assertEqual(spans(lock, row, gap), [(1, count, often)])

    def test_no_gap_goes_ahead_of_too_wide(self):
        lock, row = choices([10 * n for n in range(1, 41)])
        for thing in [(0, 0, 2), [0, 0, 1], (0, 0, True), [(0, 0, 1)], (0, 0), (0, 0, 0)] + anything.plain_things():
            with self.assertRaises(NoGap):
                spans(lock, row, thing)


class RefusedTest(unittest.TestCase):
    def test_no_wishes(self):
        for thing in anything.plain_things() + [(GOAL[0],), GOAL * 3, list(GOAL), ((0,), (4,)), ((0,), (True,))]:
            for ask, rest in ((uses, (None,)), (lengths, ()), (needed, ()), (spans, (None,))):
                with self.assertRaises(NoWishes):
                    ask(ROUND, thing, *rest)

    def test_no_lock(self):
        for ask, rest in ((uses, (None, None)), (lengths, (None,)), (needed, (None,)), (spans, (None, None))):
            with self.assertRaises(NoLock):
                ask(ring_lock(3)[1:], *rest)


if __name__ == "__main__":
    unittest.main()
