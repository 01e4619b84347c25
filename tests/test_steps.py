"""Point 7: steps that can be done, walks, and what can be come to for a price."""

import random
import unittest

from tests import anything, plain
from tests.makers import fork_lock, line_lock, line_place, random_lock, random_stand, ring_lock
from waitbolts.errors import NoPrice, NoStand, NoStep, TooWide
from waitbolts.locks import can_step, spread, stands_of, walked


def line_steps(manys, stand, many):
    """So many steps upwards along a line lock's row, from a stand."""
    lock = line_lock(manys)
    steps = []
    for _ in range(many):
        for k, to, _ in can_step(lock, stand):
            there = plain.behind(stand, k, to)
            if line_place(manys, there) > line_place(manys, stand):
                steps.append((k, to))
                stand = there
                break
    return steps, stand


class CanStepTest(unittest.TestCase):
    def test_rings(self):
        lock = ring_lock(3, price=5)
        self.assertEqual(can_step(lock, (0, 0, 0)), [(0, 1, 5)])
        self.assertEqual(can_step(lock, (1, 0, 0)), [(0, 0, 5), (1, 1, 5)])
        self.assertEqual(can_step(lock, (0, 1, 0)), [(0, 1, 5), (2, 1, 5)])
        self.assertEqual(can_step(lock, (1, 1, 1)), [(0, 0, 5), (1, 0, 5)])

    def test_bolts_above_never_matter(self):
        lock = ring_lock(4)
        for stand in plain.stands(lock):
            for k in range(4):
                below = [step for step in can_step(lock, stand) if step[0] < k]
                self.assertEqual(below, can_step(lock[:k], stand[:k]) if k else [])

    def test_the_list_rises(self):
        self.assertEqual(can_step(fork_lock(2), (3, 0)), [(0, 1, 1), (0, 2, 1), (1, 1, 1), (1, 2, 1)])
        self.assertEqual(can_step(((2, ()),), (0,)), [])
        self.assertEqual(can_step(((2, ((0, 1, 1, ()),)),), (0,)), [])

    def test_beside_a_plain_look(self):
        for seed in range(40):
            lock = random_lock(seed, many=1 + seed % 4)
            for stand in plain.stands(lock):
                self.assertEqual(can_step(lock, stand), plain.steps(lock, stand))
        rng = random.Random(1)
        for seed in range(4):
            lock = random_lock(seed, manys=[4] * 60, both=True)
            for _ in range(5):
                stand = random_stand(rng, lock)
                self.assertEqual(can_step(lock, stand), plain.steps(lock, stand))

    def test_no_stand(self):
        for thing in anything.near_stands(ring_lock(3), (0, 0, 1)) + anything.plain_things():
            with self.assertRaises(NoStand):
                can_step(ring_lock(3), thing)


class WalkedTest(unittest.TestCase):
    def test_walks(self):
        lock = ring_lock(3, price=1000000)
        self.assertEqual(walked(lock, (0, 0, 0), []), ((0, 0, 0), 0))
        steps = [(0, 1), (1, 1), (0, 0), (2, 1)]
        self.assertEqual(walked(lock, (0, 0, 0), steps), ((0, 1, 1), 4000000))
        self.assertEqual(walked(lock, (0, 0, 0), steps + [(2, 0)] * 1 + [(2, 1)]), ((0, 1, 1), 6000000))

    def test_long_walks(self):
        manys = [4, 3, 2] * 20
        steps, end = line_steps(manys, (0,) * 60, 300)
        self.assertEqual(len(steps), 300)
        self.assertEqual(line_place(manys, end), 300)
        self.assertEqual(walked(line_lock(manys), (0,) * 60, steps), (end, 300))
        there_and_back = [(0, 1), (0, 0)] * 20000
        self.assertEqual(walked(line_lock(manys), (0,) * 60, there_and_back), ((0,) * 60, 40000))

    def test_the_first_step_that_cannot_be_done(self):
        lock = ring_lock(3)
        for nth, steps in (
            (0, [(1, 1)]), (0, [(0, 0)]), (1, [(0, 1), (0, 1)]), (1, [(0, 1), (2, 1), (0, 7)]), (0, [(2, 1), None]),
            (2, [(0, 1), (1, 1), (2, 1)]), (0, [(0, 2)]), (0, [(3, 0)]), (0, [(-1, 1)]), (0, [(-3, 1)]),
        ):
            with self.assertRaises(NoStep) as caught:
                walked(lock, (0, 0, 0), steps)
            self.assertEqual(caught.exception.nth, nth, steps)

    def test_bolts_are_not_counted_from_behind(self):
        lock = ring_lock(3)
        self.assertEqual(walked(lock, (0, 1, 0), [(2, 1)]), ((0, 1, 1), 1))
        with self.assertRaises(NoStep) as caught:
            walked(lock, (0, 1, 0), [(-1, 1)])
        self.assertEqual(caught.exception.nth, 0)

    def test_what_is_no_step(self):
        lock = ring_lock(3)
        for thing in anything.plain_things() + [
            (0, 1, 1), (0,), [0, 1], (0, True), (False, 1), (None, 1), (0, None), ("0", 1), ((0, 1),), (0, (1,)),
            (10 ** 299, 1), (0, 10 ** 299), ([], {}), ({}, 1),
        ]:
            for nth in (0, 1, 3):
                with self.assertRaises(NoStep) as caught:
                    walked(lock, (0, 0, 0), [(0, 1), (1, 1), (0, 0)][:nth] + [thing, None])
                self.assertEqual(caught.exception.nth, nth)

    def test_what_is_no_list(self):
        for thing in anything.plain_things() + [((0, 1),), (0, 1), 1, {0: (0, 1)}]:
            if not isinstance(thing, list):
                with self.assertRaises(NoStep) as caught:
                    walked(ring_lock(3), (0, 0, 0), thing)
                self.assertEqual(caught.exception.nth, 0)


class SpreadTest(unittest.TestCase):
    def test_rings(self):
        lock = ring_lock(3, price=2)
        self.assertEqual(spread(lock, (0, 0, 0), 0), {(0, 0, 0): 0})
        self.assertEqual(spread(lock, (0, 0, 0), 1), {(0, 0, 0): 0})
        self.assertEqual(spread(lock, (0, 0, 0), 2), {(0, 0, 0): 0, (1, 0, 0): 2})
        self.assertEqual(spread(lock, (0, 0, 0), 5), {(0, 0, 0): 0, (1, 0, 0): 2, (1, 1, 0): 4})
        self.assertEqual(len(spread(lock, (0, 0, 0), 10 ** 299)), 8)

    def test_a_dearer_way_is_found_first(self):
        gaps = ((0, 1, 9, ((),)), (0, 2, 1, ((),)), (2, 1, 1, ((),)))
        self.assertEqual(spread(((3, gaps),), (0,), 9), {(0,): 0, (2,): 1, (1,): 2})

    def test_two_thousand_stands_and_one_more(self):
        for manys in ([2] * 60, [4] * 60, [3, 2, 4] * 5):
            lock = line_lock(manys)
            start = (0,) * len(manys)
            told = spread(lock, start, 1999)
            self.assertEqual(len(told), 2000)
            self.assertEqual(sorted(told.values()), list(range(2000)))
            self.assertTrue(all(line_place(manys, stand) == told[stand] for stand in told))
            for price in (2000, 10 ** 299):
                with self.assertRaises(TooWide):
                    spread(lock, start, price)

    def test_a_whole_lock_of_about_two_thousand(self):
        manys = [4, 4, 4, 4, 4]
        self.assertEqual(len(spread(line_lock(manys), (0,) * 5, 10 ** 40)), stands_of(line_lock(manys)))
        with self.assertRaises(TooWide):
            spread(line_lock(manys + [2]), (0,) * 6, 10 ** 40)
        self.assertEqual(len(spread(line_lock(manys + [2]), (0,) * 6, 1999)), 2000)

    def test_beside_a_plain_walk(self):
        for seed in range(60):
            lock = random_lock(seed, many=1 + seed % 5, greatest=4, both=seed % 3 > 0)
            stand = random_stand(random.Random(seed), lock)
            best = plain.prices(lock, [stand])
            for price in (0, 3, 9, 10 ** 30):
                self.assertEqual(
                    spread(lock, stand, price), {there: best[there] for there in best if best[there] <= price}
                )

    def test_no_price(self):
        for thing in anything.plain_things() + ["1", (1,), [1]]:
            with self.assertRaises(NoPrice):
                spread(ring_lock(3), (0, 0, 0), thing)


if __name__ == "__main__":
    unittest.main()
