"""Point 30: from how many stands a wish can be come to, to how many, and steps behind which it is lost."""

import random
import unittest

from tests import anything, plain
from tests.makers import fork_lock, line_lock, line_place, line_stand, random_lock, random_stand, random_wish, ring_lock
from waitbolts import errors
from waitbolts.changes import out_gap, rusted, turned, upon
from waitbolts.least import least
from waitbolts.locks import can_step, fault_of, stands_of
from waitbolts.reach import come_to, coming, lost


def slide(manys):
    """The row of line_lock with the steps from its one end to the other alone."""
    bolts = []
    for many, gaps in line_lock(manys):
        bolts.append((many, tuple(gap for gap in gaps if gap[0] < gap[1])))
    return tuple(bolts)


def down(manys):
    """The row of slide as it is gone: each bolt below goes on only to and fro, so its steps back are put in."""
    return line_lock(manys)[:-1] + slide(manys)[-1:]


class ComingTest(unittest.TestCase):
    def test_one_bolt(self):
        lock = ((4, ((0, 1, 1, ((),)), (1, 2, 5, ()), (3, 1, 1, ((),)))),)
        self.assertEqual([coming(lock, (place,)) for place in (0, 1, 2, 3, None)], [1, 3, 1, 1, 4])
        self.assertEqual([come_to(lock, (place,)) for place in (0, 1, 2, 3, None)], [2, 1, 1, 2, 4])

    def test_bolts_that_wait(self):
        # The lowest bolt goes up alone; the one above goes on only while it is at 0.
        lock = (2, ((0, 1, 1, ((),)),)), (2, ((0, 1, 1, ((0,),)),))
        self.assertEqual(coming(lock, (1, 1)), 3)
        self.assertEqual(coming(lock, (1, 0)), 2)
        self.assertEqual(coming(lock, (None, 1)), 3)
        self.assertEqual(coming(lock, (0, None)), 2)
        self.assertEqual(come_to(lock, (0, 0)), 4)
        self.assertEqual(come_to(lock, (1, 0)), 1)
        self.assertEqual(come_to(lock, (None, 0)), 4)
        self.assertEqual(come_to(lock, (1, None)), 2)

    def test_a_wish_that_is_open(self):
        for lock in anything.locks():
            count = stands_of(lock)
            self.assertEqual(coming(lock, (None,) * len(lock)), count)
            self.assertEqual(come_to(lock, (None,) * len(lock)), count)

    def test_beside_walks_through_all_stands(self):
        some = 0
        for seed in range(150):
            rng = random.Random(seed)
            lock = random_lock(seed, many=rng.randint(1, 4), both=seed % 4 == 0)
            prices = plain.all_prices(lock)
            for none in (0, 0, 0.4, 0.8):
                wish = random_wish(rng, lock, none=none)
                ends = [stand for stand in prices if plain.meets(stand, wish)]
                told = coming(lock, wish), come_to(lock, wish)
                self.assertEqual(told[0], sum(any(end in prices[stand] for end in ends) for stand in prices))
                self.assertEqual(told[1], len({stand for end in ends for stand in prices[end]}))
                some += 1 < told[0] < len(prices)
        self.assertTrue(some > 200)

    def test_eight_words_that_none_comes_to(self):
        # Each stand of the bolts below comes to any of the words, or to some, or to itself alone.
        for seed in range(40):
            rng = random.Random(seed)
            manys = [4, 3, 3]
            words = sorted(rng.sample([(a, b, c) for a in range(4) for b in range(3) for c in range(3)], 8))
            low = random_lock(seed, manys=manys)
            gaps = tuple((n // 2, (n // 2 + 1 + n % 2) % 4, 1, (words[n],)) for n in range(8))
            lock = low + ((4, tuple(sorted(gaps))),)
            if fault_of(lock) is not None:
                continue
            prices = plain.all_prices(lock)
            wish = random_wish(rng, lock)
            ends = [stand for stand in prices if plain.meets(stand, wish)]
            self.assertEqual(coming(lock, wish), sum(any(end in prices[one] for end in ends) for one in prices))

    def test_great_rows(self):
        for manys in ([4] * 60, [2, 3, 4] * 20, [2] * 60):
            lock = line_lock(manys)
            wish = line_stand(manys, 10 ** 17 + 3)
            self.assertEqual(coming(lock, wish), stands_of(lock))
            self.assertEqual(come_to(lock, wish), stands_of(lock))
            # Without the top bolt's step back, its places behind and ahead part.
            low, top = stands_of(lock[:59]), manys[-1]
            lock = down(manys)
            for place in range(top):
                wish = line_stand(manys, place * low + 10 ** 17)
                self.assertEqual(coming(lock, wish), low * (place + 1))
                self.assertEqual(come_to(lock, wish), low * (top - place))
                self.assertEqual(coming(lock, (None,) * 59 + (place,)), low * (place + 1))

    def test_a_great_row_upon_another(self):
        half = line_lock([3] * 30)
        stand = line_stand([3] * 30, 10 ** 9)
        lock = upon(half, half, stand)
        self.assertEqual(coming(lock, (0,) * 60), 9 ** 30)
        # Where the row below can't come to the stand that the bolts above wait for, these stay.
        lock = upon(down([3] * 30), half, line_stand([3] * 30, 0))
        self.assertEqual(coming(lock, line_stand([3] * 30, 2 * 3 ** 29) + (0,) * 30), 3 ** 29 * (2 + 3 ** 30))
        self.assertEqual(come_to(lock, line_stand([3] * 30, 2 * 3 ** 29) + (0,) * 30), 3 ** 29)

    def test_counts_of_bolts_that_go_each_for_itself(self):
        # None of sixty bolts but the lowest has a way, so all others stand where they stood.
        lock = ((4, ((0, 1, 1, ((),)), (1, 2, 1, ((),)))),) + ((3, ((0, 1, 1, ()),)),) * 59
        self.assertEqual(coming(lock, (2,) + (0,) * 59), 3)
        self.assertEqual(coming(lock, (2,) + (None,) * 59), 3 * 3 ** 59)
        self.assertEqual(come_to(lock, (1,) + (None, 0, 1) * 19 + (None, None)), 2 * 3 ** 21)

    def test_as_least_and_turned_tell(self):
        for seed in range(6):
            rng = random.Random(seed)
            lock = random_lock(seed, manys=[rng.randint(2, 4) for _ in range(60)])
            wish = random_wish(rng, lock, none=0.9)
            self.assertEqual(coming(lock, wish), come_to(turned(lock), wish))
            self.assertEqual(come_to(lock, wish), coming(turned(lock), wish))
        lock = fork_lock(60)
        self.assertEqual(coming(lock, (3,) * 60), 4 ** 60)

    def test_stands_counted_by_least(self):
        for seed in range(12):
            rng = random.Random(seed)
            lock = random_lock(seed, many=3)
            wish = random_wish(rng, lock)
            stands = plain.stands(lock)
            self.assertEqual(coming(lock, wish), sum(least(lock, (one, wish)) is not None for one in stands))
            self.assertEqual(come_to(lock, wish), sum(least(lock, (wish, one)) is not None for one in stands))

    def test_refusals_in_their_order(self):
        lock = line_lock([2, 3, 4])
        for ask in (coming, come_to):
            for thing in anything.near_wishes(lock, (0, None, 3)) + anything.plain_things():
                with self.assertRaises(errors.NoWish):
                    ask(lock, thing)
                with self.assertRaises(errors.NoLock):
                    ask(lock[1:], thing)


class LostTest(unittest.TestCase):
    def test_steps_that_can_not_be_taken_back(self):
        lock = ((4, ((0, 1, 1, ((),)), (0, 2, 1, ((),)), (0, 3, 1, ((),)), (2, 0, 1, ((),)), (3, 1, 1, ((),)))),)
        self.assertEqual(lost(lock, (0,), (2,)), [(0, 1), (0, 3)])
        self.assertEqual(lost(lock, (0,), (1,)), [])
        self.assertEqual(lost(lock, (0,), (3,)), [(0, 1)])
        # A wish that the stand meets, and one that it has behind it.
        self.assertEqual(lost(lock, (0,), (0,)), [(0, 1), (0, 3)])
        self.assertEqual(lost(lock, (0,), (None,)), [])
        # From these stands no way leads there.
        self.assertEqual(lost(lock, (1,), (0,)), [])
        self.assertEqual(lost(lock, (3,), (2,)), [])
        self.assertEqual(can_step(lock, (3,)), [(0, 1, 1)])

    def test_steps_of_bolts_below(self):
        lock = (2, ((0, 1, 1, ((),)),)), (3, ((0, 1, 1, ((0,),)), (0, 2, 1, ((0,),)))), (2, ((0, 1, 1, ((0, 1), (1, 2))),))
        self.assertEqual(lost(lock, (0, 0, 0), (None, None, 1)), [(0, 1)])
        self.assertEqual(lost(lock, (0, 1, 0), (None, None, 1)), [(0, 1)])
        self.assertEqual(lost(lock, (0, 1, 0), (None, None, 0)), [(2, 1)])
        self.assertEqual(lost(lock, (0, 0, 0), (0, None, 1)), [(0, 1), (1, 2)])
        self.assertEqual(lost(lock, (0, 0, 0), (1, 1, 1)), [(0, 1), (1, 2)])
        self.assertEqual(lost(lock, (0, 2, 0), (1, 1, 1)), [])

    def test_beside_walks(self):
        some = 0
        for seed in range(150):
            rng = random.Random(seed)
            lock = random_lock(seed, many=rng.randint(1, 4))
            prices = plain.all_prices(lock)
            for stand in rng.sample(sorted(prices), min(6, len(prices))):
                wish = random_wish(rng, lock)
                home = {one for one in prices if any(plain.meets(end, wish) for end in prices[one])}
                wanted = [
                    (k, to) for k, to, _ in plain.steps(lock, stand)
                    if stand in home and plain.behind(stand, k, to) not in home
                ]
                self.assertEqual(lost(lock, stand, wish), wanted)
                some += bool(wanted)
        self.assertTrue(some > 40)

    def test_great_locks(self):
        manys = [3] * 60
        lock = down(manys)
        low = stands_of(lock[:59])
        # At the row's end below, the top bolt's step is one that can't be taken back.
        stand = line_stand(manys, low - 1)
        self.assertEqual(line_place(manys, stand), low - 1)
        self.assertEqual([step[:2] for step in can_step(lock, stand)][-1], (59, 1))
        self.assertEqual(lost(lock, stand, (None,) * 59 + (0,)), [(59, 1)])
        self.assertEqual(lost(lock, stand, (None,) * 59 + (1,)), [])
        self.assertEqual(lost(lock, stand, (None,) * 60), [])
        self.assertEqual(lost(lock, line_stand(manys, 2 * low), (None,) * 59 + (1,)), [])
        for seed in range(6):
            rng = random.Random(seed)
            lock = random_lock(seed, manys=manys)
            stand, wish = random_stand(rng, lock), random_wish(rng, lock, none=0.95)
            wanted = [] if least(lock, (stand, wish)) is None else [
                (k, to) for k, to, _ in can_step(lock, stand)
                if least(lock, (stand[:k] + (to,) + stand[k + 1:], wish)) is None
            ]
            self.assertEqual(lost(lock, stand, wish), wanted)

    def test_a_bolt_taken_out(self):
        lock = ring_lock(5)
        self.assertEqual(lost(lock, (1, 0, 0, 0, 0), (0,) * 5), [])
        less = out_gap(lock, 1, 1, 0)
        self.assertEqual(lost(less, (1, 0, 0, 0, 0), (None, 0, 0, 0, 0)), [(1, 1)])
        self.assertEqual(lost(rusted(less, {0: 1}), (0, 0, 0, 0), (0,) * 4), [(0, 1)])

    def test_refusals_in_their_order(self):
        lock = line_lock([2, 3, 4])
        for thing in anything.near_stands(lock, (0, 0, 0)) + anything.plain_things():
            with self.assertRaises(errors.NoStand):
                lost(lock, thing, thing)
        for thing in anything.near_wishes(lock, (0, None, 3)) + anything.plain_things():
            with self.assertRaises(errors.NoWish):
                lost(lock, (0, 0, 0), thing)
        with self.assertRaises(errors.NoLock):
            lost(lock[1:], None, None)


if __name__ == "__main__":
    unittest.main()
