"""Points 8 and 9: the least price of a way that meets a row of wishes."""

import random
import unittest

from tests import anything, plain
from tests.makers import (
    fork_lock, ladder_lock, line_lock, line_place, random_lock, random_stand, random_wish, ring_lock,
)
from waitbolts.errors import NoWishes
from waitbolts.least import least
from waitbolts.locks import can_step


def line_span(manys, wish):
    """The first and the last number in the row of what meets a wish that has None for some lowest bolts alone."""
    free = sum(place is None for place in wish)
    size = 1
    for many in manys[:free]:
        size *= many
    block = line_place(manys, (0,) * free + wish[free:]) // size
    return block * size, (block + 1) * size - 1


def line_least(manys, row):
    """The least count of steps along a line lock's row through spans, one after the other."""
    low, high = line_span(manys, row[0])
    total = 0
    for wish in row[1:]:
        first, last = line_span(manys, wish)
        if first <= high and low <= last:
            low, high = max(low, first), min(high, last)
        else:
            total += max(first - high, low - last)
            low = high = first if first > high else last
    return total


def padded(lock, still):
    """A lock with bolts put in that never move, at place 1, and the numbers of the bolts of the lock in it."""
    bolts = []
    numbers = []
    for bolt, many in zip(lock, still):
        bolts += [(3, ((0, 1, 1, ()),))] * many
        numbers.append(len(bolts))
        gaps = []
        for here, there, price, ways in bolt[1]:
            gaps.append((here, there, price, tuple(put(way, numbers, len(bolts)) for way in ways)))
        bolts.append((bolt[0], tuple(gaps)))
    return tuple(bolts), numbers


def put(word, numbers, many):
    """A word with place 1 wherever the lock it is of has no bolt."""
    places = [1] * many
    for place, k in zip(word, numbers):
        places[k] = place
    return tuple(places)


class LeastTest(unittest.TestCase):
    def test_small(self):
        lock = ring_lock(3, price=10)
        self.assertEqual(least(lock, ((0, 0, 0), (0, 0, 1))), 70)
        self.assertEqual(least(lock, ((0, 0, 0), (1, 1, 1))), 50)
        self.assertEqual(least(lock, ((0, 0, 0), (0, 0, 0))), 0)
        self.assertEqual(least(lock, ((0, 0, 0), (None, None, 1))), 40)
        self.assertEqual(least(lock, ((None, 0, None), (None, 1, None), (None, 0, None))), 20)

    def test_one_bolt(self):
        gaps = ((0, 1, 1, ((),)), (0, 2, 1000000, ((),)), (1, 2, 999999, ((),)), (2, 0, 7, ()))
        lock = ((3, gaps),)
        self.assertEqual(least(lock, ((0,), (2,))), 1000000)
        self.assertEqual(least(lock, ((1,), (2,))), 999999)
        self.assertIs(least(lock, ((2,), (0,))), None)
        self.assertEqual(least(lock, ((None,), (2,))), 0)
        self.assertEqual(least(lock, ((None,), (1,), (None,), (2,))), 999999)

    def test_no_way(self):
        lock = ((2, ()),)
        self.assertIs(least(lock, ((0,), (1,))), None)
        self.assertEqual(least(lock, ((0,), (0,), (None,), (0,))), 0)
        self.assertIs(least(lock, ((0,), (None,), (1,), (None,))), None)
        self.assertIs(least(ring_lock(60)[:59] + ((2, ()),), ((0,) * 60, (0,) * 59 + (1,))), None)

    def test_a_wish_open_everywhere(self):
        for lock in anything.locks():
            free = (None,) * len(lock)
            stand = (0,) * len(lock)
            for row in ((free, free), (stand, free), (free, stand), (free, free, free), (free, stand, free, stand)):
                self.assertEqual(least(lock, row), 0)

    def test_one_stand_may_meet_several_wishes(self):
        lock = ring_lock(4)
        one, other = (0, 0, 0, 0), (1, 1, 0, 1)
        price = least(lock, (one, other))
        self.assertEqual(least(lock, (one, one, other)), price)
        self.assertEqual(least(lock, (one, other, other)), price)
        self.assertEqual(least(lock, (one, (0, None, 0, None), (None,) * 4, other)), price)
        self.assertEqual(least(lock, (one, other, one)), 2 * price)

    def test_wishes_are_met_in_their_order(self):
        lock = line_lock([4, 4])
        far, mid = (0, 3), (3, 1)
        start = (0, 0)
        self.assertEqual(least(lock, (start, mid, far)), 15)
        self.assertEqual(least(lock, (start, far, mid)), 15 + 15 - line_place([4, 4], mid))

    def test_beside_a_plain_walk(self):
        for seed in range(150):
            rng = random.Random(seed)
            lock = random_lock(seed, many=rng.randint(1, 5), greatest=rng.choice([1, 3, 9]), both=seed % 3 > 0)
            for many in (2, 3, 4):
                row = tuple(random_wish(rng, lock, none=rng.choice([0, 0.3, 0.6])) for _ in range(many))
                self.assertEqual(least(lock, row), plain.least(lock, row), (lock, row))

    def test_deep_locks_beside_a_plain_walk(self):
        for seed in range(6):
            rng = random.Random(seed)
            lock = random_lock(seed, manys=[2] * 9, greatest=1000000, both=True)
            for many in (2, 4):
                row = tuple(random_wish(rng, lock, none=0.3) for _ in range(many))
                self.assertEqual(least(lock, row), plain.least(lock, row))


class GreatTest(unittest.TestCase):
    def test_rings(self):
        lock = ring_lock(60, price=1000000)
        self.assertEqual(least(lock, ((0,) * 60, (0,) * 59 + (1,))), (2 ** 60 - 1) * 1000000)
        self.assertEqual(least(lock, ((0,) * 60, (1,) * 60)), (2 ** 61 - 1) // 3 * 1000000)
        self.assertEqual(least(lock, ((None,) * 59 + (0,), (None,) * 59 + (1,))), 1000000)

    def test_lines(self):
        rng = random.Random(3)
        for manys in ([4] * 60, [3] * 60, [2] * 60, [2, 3, 4] * 20, [4, 3] * 25):
            lock = line_lock(manys, prices=[1000000] * len(manys))
            for _ in range(6):
                row = []
                for _ in range(rng.randint(2, 4)):
                    free = rng.choice([0, 0, 1, 5, len(manys) - 2, len(manys)])
                    row.append((None,) * free + random_stand(rng, lock)[free:])
                self.assertEqual(least(lock, tuple(row)), line_least(manys, row) * 1000000)

    def test_the_greatest_prices(self):
        lock = line_lock([4] * 60, prices=[1000000] * 60)
        ends = (0,) * 60, (0,) * 59 + (3,)
        self.assertEqual(least(lock, ends), (4 ** 60 - 1) * 1000000)
        self.assertEqual(least(lock, ends + ends), (4 ** 60 - 1) * 3000000)

    def test_unlike_prices(self):
        prices = [k * k + 1 for k in range(60)]
        lock = line_lock([4] * 60, prices=prices)
        told = least(lock, ((0,) * 60, (0,) * 59 + (3,)))
        self.assertEqual(told, sum(3 * 4 ** (59 - k) * prices[k] for k in range(60)))

    def test_forks_and_ladders(self):
        ends = (0,) * 60, (0,) * 59 + (3,)
        self.assertEqual(least(fork_lock(60), ends), 2 ** 61 - 2)
        self.assertEqual(least(ladder_lock(60), ((0,) * 60, (3,) * 60)), 120)

    def test_small_locks_with_bolts_put_in(self):
        for seed in range(8):
            rng = random.Random(seed)
            small = random_lock(seed, many=5, greatest=1000000, both=True)
            lock, numbers = padded(small, [rng.randint(5, 11) for _ in range(5)])
            for many in (2, 3, 4):
                row = [random_wish(rng, small, none=0.3) for _ in range(many)]
                great = tuple(put(wish, numbers, len(lock)) for wish in row)
                self.assertEqual(least(lock, great), plain.least(small, row))

    def test_rows_of_stands_come_apart(self):
        for seed in range(3):
            rng = random.Random(seed)
            lock = random_lock(seed, manys=[4, 3, 2] * 20, greatest=1000000, both=True)
            row = tuple(random_stand(rng, lock) for _ in range(4))
            parts = [least(lock, row[n:n + 2]) for n in range(3)]
            self.assertGreater(max(parts), 10 ** 7)
            self.assertEqual(least(lock, row), sum(parts))
            self.assertEqual(least(lock, row[:3]), parts[0] + parts[1])

    def test_a_step_changes_the_price_by_no_more_than_its_own(self):
        for seed in range(3):
            rng = random.Random(seed)
            lock = random_lock(seed, manys=[4] * 60, greatest=1000000, both=True)
            stand, wish = random_stand(rng, lock), random_wish(rng, lock, none=0.3)
            price = least(lock, (stand, wish))
            behind = [cost + least(lock, (plain.behind(stand, k, to), wish)) for k, to, cost in can_step(lock, stand)]
            self.assertEqual(min(behind), price)


class HighestBoltTest(unittest.TestCase):
    """Point 9, by the program itself: the highest bolt left out, or its first step."""

    def check_split(self, lock, row):
        asked = [wish[-1] for wish in row]
        given = [place for place in asked if place is not None]
        if len(set(given)) <= 1:
            if len(lock) > 1:
                self.assertEqual(least(lock, row), least(lock[:-1], tuple(wish[:-1] for wish in row)))
            return
        found = []
        for here, there, price, ways in lock[-1][1]:
            for way in ways if here == given[0] else ():
                for n in range(1, len(row)):
                    if all(place in (None, here) for place in asked[:n]):
                        below = tuple(wish[:-1] for wish in row[:n]) + (way,)
                        parts = [least(lock[:-1], below), price, least(lock, (way + (there,),) + row[n:])]
                        if None not in parts:
                            found.append(sum(parts))
        self.assertEqual(least(lock, row), min(found, default=None))

    def test_small(self):
        for seed in range(80):
            rng = random.Random(seed)
            lock = random_lock(seed, many=rng.randint(2, 4), both=seed % 2 > 0)
            row = tuple(random_wish(rng, lock, none=0.3) for _ in range(rng.randint(2, 4)))
            self.check_split(lock, row)

    def test_great(self):
        for seed in range(3):
            rng = random.Random(seed)
            lock = random_lock(seed, manys=[rng.randint(2, 4) for _ in range(60)], greatest=1000000, both=True)
            self.check_split(lock, tuple(random_wish(rng, lock, none=0.2) for _ in range(2)))
            self.check_split(lock, tuple(random_wish(rng, lock, none=0.2) for _ in range(3)))


class NoWishesTest(unittest.TestCase):
    def test_two_wishes_to_four(self):
        lock = ring_lock(3)
        stand = (0, 0, 0)
        for many in (0, 1, 5, 6, 50000):
            with self.assertRaises(NoWishes):
                least(lock, (stand,) * many)
        for many in (2, 3, 4):
            self.assertEqual(least(lock, (stand,) * many), 0)

    def test_what_is_no_row(self):
        lock = ring_lock(3)
        stand = (0, None, 1)
        things = anything.plain_things() + [list((stand,) * 2), stand, {0: stand, 1: stand}]
        for wish in anything.near_wishes(lock, stand) + anything.plain_things():
            things += [(stand, wish), (wish, stand), (stand, stand, wish), (stand, wish, stand, stand)]
        for thing in things:
            with self.assertRaises(NoWishes):
                least(lock, thing)


if __name__ == "__main__":
    unittest.main()
