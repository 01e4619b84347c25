"""Points 14 and 15: steps, stands and prices in books, and where they meet wishes."""

import random
import unittest

from tests import anything, plain
from tests.bookmakers import HERE, PAIR, chain, gone, loops, random_book, still
from tests.makers import line_lock, line_place, line_stand, random_lock, random_stand, random_wish, ring_lock
from waitbolts.books import told_way, weighed
from waitbolts.errors import NoBook, NoPlace, NoWish
from waitbolts.readings import moves, price_at, stand_at, step_at, time_at, times

NUMBERS = [None, True, False, -1, "0", "", (0,), [0], {}, -10 ** 299, ((),), [[]]]


class SmallTest(unittest.TestCase):
    def test_steps_stands_and_prices(self):
        up, down = ("step", 0, 1), ("step", 0, 0)
        turn = ((0,), (1,), (up,)), (HERE, (0, 1), (("part", 0), ("step", 1, 1), down))
        self.assertEqual([step_at(PAIR, turn, t) for t in range(3)], [(0, 1), (1, 1), (0, 0)])
        self.assertEqual([stand_at(PAIR, turn, t) for t in range(4)], [(0, 0), (1, 0), (1, 1), (0, 1)])
        self.assertEqual([price_at(PAIR, turn, t) for t in range(4)], [0, 3, 8, 10])
        self.assertEqual(moves(PAIR, turn), [2, 1])
        self.assertEqual([times(PAIR, turn, wish) for wish in ((0, None), (1, None), (None, 0), (1, 1))], [2, 2, 2, 1])
        self.assertEqual([time_at(PAIR, turn, (0, None), n) for n in (0, 1)], [0, 3])
        self.assertEqual([time_at(PAIR, turn, (1, None), n) for n in (0, 1)], [1, 2])
        self.assertEqual([time_at(PAIR, turn, (None, None), n) for n in range(4)], [0, 1, 2, 3])

    def test_no_steps(self):
        book = still(3, (1, 0))
        self.assertEqual(stand_at(PAIR, book, 0), (1, 0))
        self.assertEqual(price_at(PAIR, book, 0), 0)
        self.assertEqual(moves(PAIR, book), [0, 0])
        self.assertEqual(times(PAIR, book, (1, None)), 1)
        self.assertEqual(times(PAIR, book, (0, None)), 0)
        self.assertEqual(time_at(PAIR, book, (1, None), 0), 0)

    def test_beside_the_steps_gone(self):
        for seed in range(120):
            rng = random.Random(seed)
            lock = random_lock(seed, many=rng.randint(1, 5), both=seed % 3 > 0)
            book = random_book(rng, lock, rng.randint(1, 8))
            steps, stands, prices = gone(lock, book)
            if len(steps) > 200:
                continue
            self.assertEqual([step_at(lock, book, t) for t in range(len(steps))], steps)
            self.assertEqual([stand_at(lock, book, t) for t in range(len(stands))], stands)
            self.assertEqual([price_at(lock, book, t) for t in range(len(stands))], prices)
            self.assertEqual(moves(lock, book), [sum(step[0] == k for step in steps) for k in range(len(lock))])
            self.check_times(lock, book, stands, random_wish(rng, lock, none=0.7))

    def check_times(self, lock, book, stands, wish):
        when = [t for t, stand in enumerate(stands) if plain.meets(stand, wish)]
        self.assertEqual(times(lock, book, wish), len(when))
        self.assertEqual([time_at(lock, book, wish, n) for n in range(len(when))], when)
        with self.assertRaises(NoPlace):
            time_at(lock, book, wish, len(when))


class GreatTest(unittest.TestCase):
    def test_loops(self):
        book = loops(300)
        count = 10 ** 300
        for t in (0, 1, 2, 12345, 10 ** 299 - 1, 10 ** 299, 10 ** 299 + 1, count - 2, count - 1):
            self.assertEqual(step_at(PAIR, book, t), (0, 1 - t % 2))
            self.assertEqual(stand_at(PAIR, book, t), (t % 2, 0))
            self.assertEqual(price_at(PAIR, book, t), t // 2 * 5 + t % 2 * 3)
        self.assertEqual(stand_at(PAIR, book, count), HERE)
        self.assertEqual(price_at(PAIR, book, count), count // 2 * 5)
        self.assertEqual(moves(PAIR, book), [count, 0])
        self.assertEqual(times(PAIR, book, (0, None)), count // 2 + 1)
        self.assertEqual(times(PAIR, book, (1, 0)), count // 2)
        self.assertEqual(times(PAIR, book, (None, 1)), 0)
        for n in (0, 1, 77, 10 ** 299 + 7, count // 2 - 1):
            self.assertEqual(time_at(PAIR, book, (0, None), n), 2 * n)
            self.assertEqual(time_at(PAIR, book, (1, 0), n), 2 * n + 1)
        self.assertEqual(time_at(PAIR, book, (0, 0), count // 2), count)
        with self.assertRaises(NoPlace):
            time_at(PAIR, book, (1, 0), count // 2)

    def test_lines(self):
        for manys in ([4] * 60, [2] * 60, [2, 3, 4] * 20):
            self.check_line(manys, random.Random(7))

    def check_line(self, manys, rng):
        lock = line_lock(manys)
        one, other = random_stand(rng, lock), random_stand(rng, lock)
        here, there = line_place(manys, one), line_place(manys, other)
        book = told_way(lock, (one, other))
        count = abs(there - here)
        sign = 1 if there > here else -1
        self.assertEqual(weighed(lock, book)[3], count)
        for t in (0, 1, count // 3, count // 2, count - 1, rng.randrange(count)):
            self.assertEqual(stand_at(lock, book, t), line_stand(manys, here + sign * t))
            self.assertEqual(price_at(lock, book, t), t)
            k, to = step_at(lock, book, t)
            self.assertEqual(plain.behind(stand_at(lock, book, t), k, to), stand_at(lock, book, t + 1))
        self.assertEqual(stand_at(lock, book, count), other)
        low, high = min(here, there), max(here, there)
        sizes = [1]
        for many in manys:
            sizes.append(sizes[-1] * many)
        crossed = [high // size - low // size for size in sizes]
        self.assertEqual(moves(lock, book), [crossed[k] - crossed[k + 1] for k in range(len(manys))])
        self.check_line_times(manys, lock, book, here, there)

    def check_line_times(self, manys, lock, book, here, there):
        """A stand cut from below is met all along its stretch of the row."""
        sign = 1 if there > here else -1
        low, high = min(here, there), max(here, there)
        size = 1
        for many in manys[:40]:
            size *= many
        middle = (low + high) // 2
        wish = (None,) * 40 + line_stand(manys, middle)[40:]
        first = max(low, middle // size * size)
        last = min(high, middle // size * size + size - 1)
        many = last - first + 1
        self.assertEqual(times(lock, book, wish), many)
        for n in (0, 1, many // 2, many - 1):
            self.assertEqual(time_at(lock, book, wish, n), n + (first - here if sign > 0 else here - last))
        with self.assertRaises(NoPlace):
            time_at(lock, book, wish, many)

    def test_every_bolt_low_is_met_often(self):
        # The lowest bolt is at 0 at every third stand or so: at two of six that follow one another.
        lock = line_lock([3] * 60)
        book = told_way(lock, ((0,) * 60, (2,) * 60))
        wish = (0,) + (None,) * 59
        count = 3 ** 60 - 1
        self.assertEqual(weighed(lock, book)[3], count)
        many = times(lock, book, wish)
        self.assertEqual(many, 3 ** 59)
        places = [0, 5, 6, 11, 12, 17, 18]
        self.assertEqual([time_at(lock, book, wish, n) for n in range(7)], places)
        for n in (10 ** 6, 10 ** 20 + 1, many - 1):
            self.assertEqual(time_at(lock, book, wish, n), n // 2 * 6 + n % 2 * 5)

    def test_deep_chains(self):
        lock = line_lock([2] * 3)
        steps = [(0, 1), (0, 0)] * 14999 + [(0, 1)]
        book = chain(lock, (0, 0, 0), steps)
        for t in (0, 1, 15000, 29998):
            self.assertEqual(step_at(lock, book, t), steps[t])
            self.assertEqual(stand_at(lock, book, t), (t % 2, 0, 0))
        self.assertEqual(moves(lock, book), [29999, 0, 0])
        self.assertEqual(time_at(lock, book, (1, None, None), 14999), 29999)
        # Parts without steps may be gone more often than can be counted.
        book = still(1) + tuple((HERE, HERE, (("part", n),) * 3) for n in range(29999))
        self.assertEqual(moves(PAIR, book), [0, 0])
        self.assertEqual(times(PAIR, book, HERE), 1)

    def test_parts_that_none_uses(self):
        book = loops(3) + still(1) + (((1,), (0,), (("step", 0, 0),)),) + still(1)
        self.assertEqual(moves(PAIR, book), [0, 0])
        self.assertEqual(times(PAIR, book, (1, None)), 0)
        self.assertEqual(stand_at(PAIR, book, 0), HERE)


class RefusedTest(unittest.TestCase):
    def test_no_place(self):
        book = loops(1)
        for thing in NUMBERS + anything.plain_things() + [11, 10 ** 299]:
            for ask in (step_at, stand_at, price_at):
                with self.assertRaises(NoPlace):
                    ask(PAIR, book, thing)
            with self.assertRaises(NoPlace):
                time_at(PAIR, book, (0, None), thing)
        with self.assertRaises(NoPlace):
            step_at(PAIR, book, 10)
        with self.assertRaises(NoPlace):
            step_at(PAIR, still(1), 0)
        with self.assertRaises(NoPlace):
            time_at(PAIR, book, (0, None), 6)
        with self.assertRaises(NoPlace):
            time_at(PAIR, book, (0, 1), 0)
        self.assertEqual(stand_at(PAIR, book, 10), HERE)
        self.assertEqual(price_at(PAIR, book, 10), 25)
        self.assertEqual(time_at(PAIR, book, (0, None), 5), 10)

    def test_no_wish(self):
        lock = ring_lock(3)
        book = still(1, (0, 0, 0))
        for thing in anything.near_wishes(lock, (0, None, 1)) + anything.plain_things():
            with self.assertRaises(NoWish):
                times(lock, book, thing)
            with self.assertRaises(NoWish):
                time_at(lock, book, thing, None)

    def test_no_book(self):
        for thing in anything.plain_things() + [loops(3) + (None,)]:
            for ask in (step_at, stand_at, price_at, times):
                with self.assertRaises(NoBook):
                    ask(PAIR, thing, None)
            with self.assertRaises(NoBook):
                time_at(PAIR, thing, None, None)
            with self.assertRaises(NoBook):
                moves(PAIR, thing)


if __name__ == "__main__":
    unittest.main()
