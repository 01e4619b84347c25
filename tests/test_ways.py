"""Point 10: how least ways begin, and how many there are."""

import random
import unittest

from tests import anything, plain
from tests.makers import (
    fork_lock, ladder_lock, line_lock, line_place, random_lock, random_stand, random_wish, ring_lock,
)
from waitbolts.errors import NoMost, NoStand, NoWish
from waitbolts.least import first_steps, how_many, least
from waitbolts.locks import can_step

MOST = 10 ** 60


class SmallTest(unittest.TestCase):
    def test_two_ways_of_one_price(self):
        gaps = ((0, 1, 1, ((),)), (0, 2, 2, ((),)), (1, 3, 2, ((),)), (2, 3, 1, ((),)))
        lock = ((4, gaps),)
        self.assertEqual(first_steps(lock, (0,), (3,)), [(0, 1), (0, 2)])
        self.assertEqual(how_many(lock, (0,), (3,), MOST), 2)
        self.assertEqual(how_many(lock, (0,), (3,), 2), 2)
        self.assertEqual(how_many(lock, (0,), (3,), 1), 1)
        self.assertEqual(first_steps(lock, (1,), (3,)), [(0, 3)])

    def test_a_dearer_way_does_not_count(self):
        gaps = ((0, 1, 1, ((),)), (0, 2, 2, ((),)), (1, 3, 2, ((),)), (2, 3, 2, ((),)))
        self.assertEqual(first_steps(((4, gaps),), (0,), (3,)), [(0, 1)])
        self.assertEqual(how_many(((4, gaps),), (0,), (3,), MOST), 1)

    def test_ways_to_unlike_stands_count_together(self):
        lock = ((3, ((0, 1, 1, ((),)), (0, 2, 1, ((),)))), (2, ((0, 1, 1, ((1,), (2,))),)))
        self.assertEqual(how_many(lock, (0, 0), (None, 1), MOST), 2)
        self.assertEqual(first_steps(lock, (0, 0), (None, 1)), [(0, 1), (0, 2)])

    def test_first_steps_of_unlike_bolts(self):
        # Bolt 1 may step before bolt 0 or behind it.
        lock = ((2, ((0, 1, 1, ((),)),)), (2, ((0, 1, 1, ((0,), (1,))),)))
        self.assertEqual(first_steps(lock, (0, 0), (1, 1)), [(0, 1), (1, 1)])
        self.assertEqual(how_many(lock, (0, 0), (1, 1), MOST), 2)

    def test_met_at_once_and_never(self):
        for lock in anything.locks():
            stand = (0,) * len(lock)
            for wish in (stand, (None,) * len(lock), (0,) + (None,) * (len(lock) - 1)):
                self.assertEqual(first_steps(lock, stand, wish), [])
                self.assertEqual(how_many(lock, stand, wish, MOST), 1)
                self.assertEqual(how_many(lock, stand, wish, 1), 1)
        lock = ring_lock(60)[:59] + ((2, ()),)
        self.assertEqual(first_steps(lock, (0,) * 60, (0,) * 59 + (1,)), [])
        for most in (1, MOST):
            self.assertEqual(how_many(lock, (0,) * 60, (0,) * 59 + (1,), most), 0)

    def test_beside_a_plain_walk(self):
        for seed in range(150):
            rng = random.Random(seed)
            lock = random_lock(seed, many=rng.randint(1, 5), greatest=rng.choice([1, 2, 3]), both=seed % 3 > 0)
            for _ in range(3):
                self.check_beside(lock, random_stand(rng, lock), random_wish(rng, lock, none=0.3), rng.randint(1, 9))

    def test_deep_locks_beside_a_plain_walk(self):
        for seed in range(6):
            rng = random.Random(seed)
            lock = random_lock(seed, manys=[2] * 9, greatest=1, both=True)
            self.check_beside(lock, random_stand(rng, lock), random_wish(rng, lock, none=0.2), 3)

    def check_beside(self, lock, stand, wish, most):
        firsts, count = plain.least_ways(lock, stand, wish)
        self.assertEqual(first_steps(lock, stand, wish), firsts, (lock, stand, wish))
        self.assertEqual(how_many(lock, stand, wish, MOST), count)
        self.assertEqual(how_many(lock, stand, wish, most), min(count, most))

    def test_forks_beside_a_plain_walk(self):
        for make in (fork_lock, ladder_lock):
            for stand in ((0, 0, 0), (3, 0, 0), (1, 0, 0)):
                for wish in ((0, 0, 3), (3, 3, 3), (None, 1, None)):
                    self.check_beside(make(3), stand, wish, 5)


class GreatTest(unittest.TestCase):
    def test_counts_of_forks(self):
        count = 1
        for many in range(1, 61):
            count = min(2 * count * count, MOST)
            self.assertEqual(how_many(fork_lock(many), (0,) * many, (0,) * (many - 1) + (3,), MOST), count)
        self.assertEqual(how_many(fork_lock(7), (0,) * 7, (0,) * 6 + (3,), MOST), 2 ** 127)
        for most in (1, 2, 999, MOST - 1, MOST):
            self.assertEqual(how_many(fork_lock(60), (0,) * 60, (0,) * 59 + (3,), most), most)

    def test_counts_of_ladders(self):
        for many in (1, 7, 60):
            ends = (0,) * many, (3,) * many
            self.assertEqual(how_many(ladder_lock(many), *ends, MOST), 2 ** many)
            self.assertEqual(how_many(ladder_lock(many), *ends, 2 ** many), 2 ** many)
            self.assertEqual(how_many(ladder_lock(many), *ends, 2 ** many - 1), 2 ** many - 1)
            self.assertEqual(how_many(ladder_lock(many), *ends, 2 ** many + 1), 2 ** many)

    def test_lines_have_one_way(self):
        rng = random.Random(4)
        for manys in ([4] * 60, [2] * 60, [2, 3, 4] * 20):
            lock = line_lock(manys)
            for _ in range(5):
                stand, other = random_stand(rng, lock), random_stand(rng, lock)
                self.assertEqual(how_many(lock, stand, other, MOST), 1)
                [(k, to)] = first_steps(lock, stand, other)
                near = line_place(manys, plain.behind(stand, k, to))
                here, there = line_place(manys, stand), line_place(manys, other)
                self.assertEqual(near, here + 1 if there > here else here - 1)

    def test_the_top_bolt_first(self):
        lock = fork_lock(60)
        stand = (0,) * 58 + (3, 0)
        self.assertEqual(first_steps(lock, stand, (None,) * 59 + (1,)), [(59, 1)])
        self.assertEqual(first_steps(lock, stand, (0,) * 59 + (3,)), [(59, 1), (59, 2)])

    def test_first_steps_are_those_that_come_nearer(self):
        for seed in range(4):
            rng = random.Random(seed)
            greatest = 1 if seed % 2 else 1000000
            lock = random_lock(seed, manys=[4, 2, 3] * 20, greatest=greatest, both=True)
            for none in (0, 0.5):
                stand, wish = random_stand(rng, lock), random_wish(rng, lock, none=none)
                price = least(lock, (stand, wish))
                steps = can_step(lock, stand)
                rest = [least(lock, (plain.behind(stand, k, to), wish)) for k, to, _ in steps]
                nearer = [step[:2] for step, more in zip(steps, rest) if more is not None and step[2] + more == price]
                self.assertEqual(first_steps(lock, stand, wish), nearer)

    def test_counts_add_up_over_first_steps(self):
        for seed in range(3):
            rng = random.Random(seed)
            lock = random_lock(seed, manys=[2, 4] * 10, greatest=1, both=True)
            stand, wish = random_stand(rng, lock), random_wish(rng, lock, none=0.3)
            rest = [how_many(lock, plain.behind(stand, *step), wish, MOST) for step in first_steps(lock, stand, wish)]
            self.assertEqual(how_many(lock, stand, wish, MOST), min(sum(rest), MOST) if rest else 1)


class RefusedTest(unittest.TestCase):
    def test_no_stand(self):
        lock = ring_lock(3)
        for thing in anything.near_stands(lock, (0, 0, 1)) + anything.plain_things():
            for ask in (first_steps, lambda *given: how_many(*given, 1)):
                with self.assertRaises(NoStand):
                    ask(lock, thing, (0, 0, 0))

    def test_no_wish(self):
        lock = ring_lock(3)
        for thing in anything.near_wishes(lock, (0, None, 1)) + anything.plain_things():
            for ask in (first_steps, lambda *given: how_many(*given, 1)):
                with self.assertRaises(NoWish):
                    ask(lock, (0, 0, 0), thing)

    def test_no_most(self):
        lock = ring_lock(3)
        stand = (0, 0, 0)
        for thing in anything.plain_things() + [0, MOST + 1, 10 ** 299, "1", (1,), [1]]:
            with self.assertRaises(NoMost):
                how_many(lock, stand, stand, thing)
        for most in (1, 2, MOST - 1, MOST):
            self.assertEqual(how_many(lock, stand, stand, most), 1)


if __name__ == "__main__":
    unittest.main()
