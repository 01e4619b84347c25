"""Points 24 to 27: locks changed."""

import copy
import random
import unittest

from tests import anything, plain
from tests.makers import line_lock, random_lock, random_stand, random_wish, ring_lock
from waitbolts import errors
from waitbolts.changes import (
    is_within, lower, out_gap, out_way, priced, put_gap, put_way, renamed, rusted, turned, upon, without,
)
from waitbolts.least import least
from waitbolts.locks import fault_of

# A lock of three bolts, the middle one with a gap without ways.
LOCK = (
    (2, ((0, 1, 1, ((),)),)),
    (3, ((0, 1, 2, ((0,),)), (1, 0, 3, ()), (2, 1, 4, ((0,), (1,))))),
    (2, ((0, 1, 5, ((0, 1), (1, 2))), (1, 0, 6, ((1, 0),)))),
)
NUMBERS = [None, True, False, -1, "0", (), (0,), [0], {}, 10 ** 299, [[]], ((),)]


def bolt(lock, k, *gaps):
    """The lock with these gaps of bolt k."""
    return lock[:k] + ((lock[k][0], gaps),) + lock[k + 1:]


class Case(unittest.TestCase):
    def refused(self, name, ask, *given):
        """Asking is refused with an error of this class's name, and nothing that is given is changed."""
        kept = copy.deepcopy(given)
        with self.assertRaises(errors.BoltError) as caught:
            ask(*given)
        self.assertEqual(caught.exception.__class__.__name__, name, (ask, given))
        self.assertEqual(repr(kept), repr(given))
        return caught.exception


class PutGapTest(Case):
    def test_in_order_and_without_ways(self):
        a, b, c = LOCK[1][1]
        self.assertEqual(put_gap(LOCK, 1, 0, 2, 9), bolt(LOCK, 1, a, (0, 2, 9, ()), b, c))
        self.assertEqual(put_gap(LOCK, 1, 2, 0, 1), bolt(LOCK, 1, a, b, (2, 0, 1, ()), c))
        self.assertEqual(put_gap(LOCK, 0, 1, 0, 1000000), bolt(LOCK, 0, LOCK[0][1][0], (1, 0, 1000000, ())))
        self.assertEqual(put_gap(((4, ()),), 0, 3, 2, 7), ((4, ((3, 2, 7, ()),)),))

    def test_refusals_in_their_order(self):
        for thing in NUMBERS + [3]:
            self.refused("NoBolt", put_gap, LOCK, thing, None, None, None)
        for here, there in [(0, 0), (0, 3), (3, 0), (-1, 0), (0, -1)] + [(n, 1) for n in NUMBERS] + [(1, n) for n in NUMBERS]:
            self.refused("NoGap", put_gap, LOCK, 1, here, there, None)
        for price in NUMBERS + [0, 1000001]:
            self.refused("NoPrice", put_gap, LOCK, 1, 0, 1, price)
        self.refused("Taken", put_gap, LOCK, 1, 0, 1, 2)
        self.refused("Taken", put_gap, LOCK, 1, 1, 0, 1000000)


class OutGapTest(Case):
    def test_one_out(self):
        a, b, c = LOCK[1][1]
        self.assertEqual(out_gap(LOCK, 1, 0, 1), bolt(LOCK, 1, b, c))
        self.assertEqual(out_gap(LOCK, 1, 1, 0), bolt(LOCK, 1, a, c))
        self.assertEqual(out_gap(LOCK, 1, 2, 1), bolt(LOCK, 1, a, b))
        self.assertEqual(out_gap(LOCK, 0, 0, 1), bolt(LOCK, 0))

    def test_put_and_out_again(self):
        for seed in range(20):
            lock = random_lock(seed, many=4)
            for k, (many, gaps) in enumerate(lock):
                for here in range(many):
                    for there in range(many):
                        if here != there and (here, there) not in [gap[:2] for gap in gaps]:
                            self.assertEqual(out_gap(put_gap(lock, k, here, there, 5), k, here, there), lock)

    def test_refusals_in_their_order(self):
        for thing in NUMBERS + [3]:
            self.refused("NoBolt", out_gap, LOCK, thing, None, None)
        for here, there in [(0, 0), (0, 2), (0, 3), (1, 2)] + [(n, 1) for n in NUMBERS] + [(1, n) for n in NUMBERS]:
            self.refused("NoGap", out_gap, LOCK, 1, here, there)


class PutWayTest(Case):
    def test_in_order(self):
        a, b, c = LOCK[1][1]
        self.assertEqual(put_way(LOCK, 1, 1, 0, (1,)), bolt(LOCK, 1, a, (1, 0, 3, ((1,),)), c))
        self.assertEqual(put_way(LOCK, 1, 0, 1, (1,)), bolt(LOCK, 1, (0, 1, 2, ((0,), (1,))), b, c))
        told = put_way(LOCK, 2, 0, 1, (1, 0))
        self.assertEqual(told[2][1][0], (0, 1, 5, ((0, 1), (1, 0), (1, 2))))
        self.assertEqual(put_way(bolt(LOCK, 0, (0, 1, 1, ())), 0, 0, 1, ()), LOCK)

    def test_refusals_in_their_order(self):
        for thing in NUMBERS + [3]:
            self.refused("NoBolt", put_way, LOCK, thing, None, None, None)
        for here, there in [(0, 0), (0, 2), (0, 3)] + [(n, 1) for n in NUMBERS] + [(1, n) for n in NUMBERS]:
            self.refused("NoGap", put_way, LOCK, 1, here, there, None)
        words = [(), (0, 0), (2,), (-1,), (True,), (False,), (None,), ("0",), ([0],), [0], "0", 0, None, {0: 0}, ((0,),)]
        for word in words + anything.plain_things():
            self.refused("NoWay", put_way, LOCK, 1, 2, 1, word)
        self.refused("NoWay", put_way, LOCK, 0, 0, 1, (0,))
        self.refused("Taken", put_way, LOCK, 1, 2, 1, (0,))
        self.refused("Taken", put_way, LOCK, 0, 0, 1, ())

    def test_eight_ways_and_nine(self):
        words = [(one, other) for one in range(3) for other in range(3)]
        gaps = ((0, 1, 1, tuple(words[:4])), (1, 0, 1, tuple(words[4:7])))
        lock = ((3, ()), (3, ()), (2, gaps))
        told = put_way(lock, 2, 1, 0, words[7])
        self.assertEqual(told[2][1][1], (1, 0, 1, tuple(words[4:8])))
        # What is taken goes ahead of what would be no lock.
        self.refused("Taken", put_way, told, 2, 1, 0, words[7])
        caught = self.refused("NoLock", put_way, told, 2, 1, 0, words[0])
        self.assertEqual(caught.fault, ("bolt", 2))

    def test_eight_words_and_nine(self):
        words = [(one, other) for one in range(3) for other in range(3)]
        low = ((3, ()), (3, ()))
        lock = low + ((2, ((0, 1, 1, tuple(words[:7])),)), (2, ((0, 1, 1, ()),)))
        told = put_way(lock, 3, 0, 1, words[7] + (0,))
        self.assertIs(fault_of(told), None)
        for top in (0, 1):
            self.assertIs(fault_of(put_way(told, 3, 0, 1, words[0] + (top,))), None)
        caught = self.refused("NoLock", put_way, told, 3, 0, 1, words[8] + (0,))
        self.assertEqual(caught.fault, ("words", 2))


class OutWayTest(Case):
    def test_one_out(self):
        a, b, c = LOCK[1][1]
        self.assertEqual(out_way(LOCK, 1, 2, 1, (0,)), bolt(LOCK, 1, a, b, (2, 1, 4, ((1,),))))
        self.assertEqual(out_way(LOCK, 1, 0, 1, (0,)), bolt(LOCK, 1, (0, 1, 2, ()), b, c))
        self.assertEqual(out_way(LOCK, 0, 0, 1, ()), bolt(LOCK, 0, (0, 1, 1, ())))

    def test_put_in_again(self):
        for seed in range(20):
            lock = random_lock(seed, many=4)
            for k, (_, gaps) in enumerate(lock):
                for here, there, _, ways in gaps:
                    for way in ways:
                        told = out_way(lock, k, here, there, way)
                        self.assertEqual(told, plain.without_way(lock, (k, here, there), way))
                        self.assertEqual(put_way(told, k, here, there, way), lock)

    def test_refusals_in_their_order(self):
        for thing in NUMBERS + [3]:
            self.refused("NoBolt", out_way, LOCK, thing, None, None, None)
        for here, there in [(0, 0), (0, 2), (0, 3)] + [(n, 1) for n in NUMBERS] + [(1, n) for n in NUMBERS]:
            self.refused("NoGap", out_way, LOCK, 1, here, there, None)
        words = [(), (0, 0), (1,), (2,), (False,), (None,), [0], 0, None, {0: 0}, ((0,),)] + anything.plain_things()
        for word in words:
            self.refused("NoWay", out_way, LOCK, 1, 0, 1, word)
        self.refused("NoWay", out_way, LOCK, 1, 1, 0, (0,))


class PricedTest(Case):
    def test_another_price(self):
        a, b, c = LOCK[1][1]
        for price in (1, 2, 3, 1000000):
            self.assertEqual(priced(LOCK, 1, 1, 0, price), bolt(LOCK, 1, a, (1, 0, price, ()), c))
        self.assertEqual(priced(LOCK, 1, 2, 1, 4), LOCK)

    def test_refusals_in_their_order(self):
        for thing in NUMBERS + [3]:
            self.refused("NoBolt", priced, LOCK, thing, None, None, None)
        for here, there in [(0, 0), (0, 2), (0, 3)] + [(n, 1) for n in NUMBERS] + [(1, n) for n in NUMBERS]:
            self.refused("NoGap", priced, LOCK, 1, here, there, None)
        for price in NUMBERS + [0, 1000001]:
            self.refused("NoPrice", priced, LOCK, 1, 0, 1, price)


class RustedTest(Case):
    def test_ways_with_the_others_there(self):
        self.assertEqual(rusted(LOCK, {0: 0}), (
            (3, ((0, 1, 2, ((),)), (1, 0, 3, ()), (2, 1, 4, ((),)))),
            (2, ((0, 1, 5, ((1,),)), (1, 0, 6, ()))),
        ))
        self.assertEqual(rusted(LOCK, {1: 2}), (LOCK[0], (2, ((0, 1, 5, ((1,),)), (1, 0, 6, ())))))
        self.assertEqual(rusted(LOCK, {1: 0, 2: 1}), LOCK[:1])
        self.assertEqual(rusted(LOCK, {1: 1, 0: 0}), ((2, ((0, 1, 5, ((),)), (1, 0, 6, ()))),))
        self.assertEqual(rusted(LOCK, {2: 0}), LOCK[:2])
        self.assertEqual(rusted(LOCK, {}), LOCK)

    def test_no_bolt(self):
        full = {0: 0, 1: 0, 2: 0}
        for thing in NUMBERS[:-3] + [full, {3: 0}, {-1: 0}, {0: 2}, {0: -1}, {1: 3}, {0: None}, {0: (0,)}, {None: 0}]:
            if thing != {}:
                self.refused("NoBolt", rusted, LOCK, thing)
                self.refused("NoBolt", without, LOCK, thing, None)
        for thing in [{"0": 0}, {(0,): 0}, {True: 0}, {0: False}, {1: True}, [(0, 0)], ((0, 0),), [0], {10 ** 299: 0}]:
            self.refused("NoBolt", rusted, LOCK, thing)
            self.refused("NoBolt", without, LOCK, thing, None)
        for thing in anything.plain_things():
            if thing != {} and repr(thing) != "{0: 0}":
                self.refused("NoBolt", rusted, LOCK, thing)

    def test_least_prices_of_what_stays(self):
        for seed in range(60):
            rng = random.Random(seed)
            lock = random_lock(seed, many=rng.randint(2, 4), both=seed % 3 > 0)
            stand = random_stand(rng, lock)
            some = rng.sample(range(len(lock)), rng.randint(0, len(lock) - 1))
            places = {k: stand[k] for k in some}
            told = rusted(lock, places)
            self.assertIs(fault_of(told), None)
            wish = tuple(place if k in places else want for k, (place, want) in enumerate(
                zip(stand, random_wish(rng, lock))
            ))
            row = without(lock, places, stand), without(lock, places, wish)
            # The rusted bolts' own gaps taken out, all others are as they were.
            still = tuple((many, () if k in places else gaps) for k, (many, gaps) in enumerate(lock))
            self.assertEqual(least(told, row), least(still, (stand, wish)))


class WithoutTest(Case):
    def test_wishes(self):
        self.assertEqual(without(LOCK, {1: 2}, (0, 2, None)), (0, None))
        self.assertEqual(without(LOCK, {1: 2}, (0, None, 1)), (0, 1))
        self.assertEqual(without(LOCK, {0: 1, 2: 0}, (None, 1, 0)), (1,))
        self.assertEqual(without(LOCK, {}, (None, 1, 0)), (None, 1, 0))

    def test_no_wish(self):
        for wish in [(0, 1, None), (0, 0, 0), (0, 2), (0, 2, 0, 0), [0, 2, 0], (0, 2, 2), (0, True, 0), (True, 2, 0)]:
            self.refused("NoWish", without, LOCK, {1: 2}, wish)
        for thing in anything.near_wishes(LOCK, (0, 2, 0)) + anything.plain_things():
            self.refused("NoWish", without, LOCK, {1: 2}, thing)
        self.refused("NoWish", without, LOCK, {1: 1}, (0, True, 0))


class LowerTest(Case):
    def test_the_first_bolts(self):
        for many in (1, 2, 3):
            self.assertEqual(lower(LOCK, many), LOCK[:many])
        lock = line_lock([2, 3, 4] * 20)
        for many in (1, 59, 60):
            self.assertEqual(lower(lock, many), line_lock(([2, 3, 4] * 20)[:many]))

    def test_no_bolt(self):
        for thing in NUMBERS + [0, 4] + anything.plain_things():
            self.refused("NoBolt", lower, LOCK, thing)


class RenamedTest(Case):
    def test_gaps_and_ways_above(self):
        told = renamed(LOCK, 1, (2, 0, 1))
        self.assertEqual(told[1], (3, ((0, 2, 3, ()), (1, 0, 4, ((0,), (1,))), (2, 0, 2, ((0,),)))))
        self.assertEqual(told[2], (2, ((0, 1, 5, ((0, 0), (1, 1))), (1, 0, 6, ((1, 2),)))))
        told = renamed(LOCK, 0, (1, 0))
        self.assertEqual(told[0], (2, ((1, 0, 1, ((),)),)))
        self.assertEqual(told[1], (3, ((0, 1, 2, ((1,),)), (1, 0, 3, ()), (2, 1, 4, ((0,), (1,))))))
        self.assertEqual(told[2], (2, ((0, 1, 5, ((0, 2), (1, 1))), (1, 0, 6, ((0, 0),)))))
        self.assertEqual(renamed(LOCK, 2, (1, 0))[:2], LOCK[:2])

    def test_as_it_is(self):
        for k, names in enumerate([(0, 1), (0, 1, 2), (0, 1)]):
            self.assertEqual(renamed(LOCK, k, names), LOCK)

    def test_there_and_back(self):
        for seed in range(30):
            rng = random.Random(seed)
            lock = random_lock(seed, many=5, both=True)
            k = rng.randrange(5)
            names = tuple(rng.sample(range(lock[k][0]), lock[k][0]))
            told = renamed(lock, k, names)
            self.assertIs(fault_of(told), None)
            self.assertEqual(renamed(told, k, tuple(names.index(p) for p in range(len(names)))), lock)
            row = random_stand(rng, lock), random_wish(rng, lock)
            other = tuple(
                wish[:k] + (None if wish[k] is None else names[wish[k]],) + wish[k + 1:] for wish in row
            )
            self.assertEqual(least(lock, row), least(told, other))

    def test_refusals_in_their_order(self):
        for thing in NUMBERS + [3]:
            self.refused("NoBolt", renamed, LOCK, thing, None)
        names = [(0, 1), (0, 1, 2, 3), (0, 1, 1), (1, 2, 3), [0, 1, 2], (0, True, 2), (False, 1, 2), (0, None, 2), "012"]
        for thing in names + [{0: 0, 1: 1, 2: 2}, (0, 1, "2"), (0, 1, (2,)), (0, 1, [2])] + anything.plain_things():
            self.refused("NoNames", renamed, LOCK, 1, thing)


class TurnedTest(Case):
    def test_gaps_rising_anew(self):
        self.assertEqual(turned(LOCK), (
            (2, ((1, 0, 1, ((),)),)),
            (3, ((0, 1, 3, ()), (1, 0, 2, ((0,),)), (1, 2, 4, ((0,), (1,))))),
            (2, ((0, 1, 6, ((1, 0),)), (1, 0, 5, ((0, 1), (1, 2))))),
        ))

    def test_ways_go_back(self):
        for seed in range(30):
            rng = random.Random(seed)
            lock = random_lock(seed, many=rng.randint(1, 6))
            told = turned(lock)
            self.assertIs(fault_of(told), None)
            self.assertEqual(turned(told), lock)
            row = tuple(random_wish(rng, lock) for _ in range(rng.randint(2, 4)))
            self.assertEqual(least(lock, row), least(told, row[::-1]))


class UponTest(Case):
    def test_ways_have_the_stand_ahead(self):
        told = upon(LOCK[:2], LOCK, (1, 2))
        self.assertEqual(told[:2], LOCK[:2])
        self.assertEqual(told[2], (2, ((0, 1, 1, ((1, 2),)),)))
        self.assertEqual(told[3], (3, ((0, 1, 2, ((1, 2, 0),)), (1, 0, 3, ()), (2, 1, 4, ((1, 2, 0), (1, 2, 1))))))
        self.assertEqual(told[4][1][0], (0, 1, 5, ((1, 2, 0, 1), (1, 2, 1, 2))))
        self.assertEqual(rusted(told, {0: 1, 1: 2}), LOCK)

    def test_sixty_bolts_and_one_more(self):
        one, other = ring_lock(30), ring_lock(31)
        told = upon(one, ring_lock(30), (0,) * 30)
        self.assertEqual(len(told), 60)
        self.assertIs(fault_of(told), None)
        for first, second in ((one, other), (other, one)):
            caught = self.refused("NoLock", upon, first, second, (0,) * len(first))
            self.assertEqual(caught.fault, ("lock",))

    def test_eight_words_and_nine(self):
        words = tuple((one, other) for one in range(3) for other in range(3))
        lock = ((3, ()), (3, ()), (2, ((0, 1, 1, words[:8]),)))
        self.assertIs(fault_of(upon(lock, LOCK, (2, 1, 0))), None)
        caught = self.refused("NoLock", upon, lock, LOCK, (2, 2, 0))
        self.assertEqual(caught.fault, ("words", 2))
        # A lock none of whose bolts has a way asks for no word.
        self.assertIs(fault_of(upon(lock, ((2, ()), (3, ((0, 1, 1, ()),))), (2, 2, 0))), None)

    def test_refusals_in_their_order(self):
        caught = self.refused("NoLock", upon, LOCK[1:], None, None)
        self.assertEqual(caught.fault, ("bolt", 0))
        self.assertEqual(self.refused("NoLock", upon, LOCK, None, None).fault, ("lock",))
        self.assertEqual(self.refused("NoLock", upon, LOCK, LOCK[2:], None).fault, ("bolt", 0))
        for thing in anything.near_stands(LOCK, (1, 2, 0)) + anything.plain_things():
            self.refused("NoStand", upon, LOCK, LOCK, thing)
        self.refused("NoStand", upon, ring_lock(31), ring_lock(31), (0,) * 30)


class WithinTest(Case):
    def test_steps_for_no_more(self):
        self.assertIs(is_within(LOCK, LOCK), True)
        self.assertIs(is_within(LOCK, priced(LOCK, 2, 0, 1, 6)), True)
        self.assertIs(is_within(LOCK, priced(LOCK, 2, 0, 1, 4)), False)
        self.assertIs(is_within(LOCK, out_way(LOCK, 2, 0, 1, (0, 1))), True)
        self.assertIs(is_within(out_way(LOCK, 2, 0, 1, (0, 1)), LOCK), False)
        self.assertIs(is_within(LOCK, out_gap(LOCK, 0, 0, 1)), True)
        self.assertIs(is_within(out_gap(LOCK, 0, 0, 1), LOCK), False)

    def test_gaps_without_ways_are_no_steps(self):
        more = put_gap(LOCK, 1, 2, 0, 1)
        self.assertIs(is_within(LOCK, more), True)
        self.assertIs(is_within(more, LOCK), True)
        self.assertIs(is_within(LOCK, priced(LOCK, 1, 1, 0, 1)), True)
        self.assertIs(is_within(LOCK, put_way(LOCK, 1, 1, 0, (0,))), False)

    def test_beside_all_stands(self):
        rng = random.Random(3)
        within = 0
        for seed in range(60):
            manys = [rng.randint(2, 3) for _ in range(3)]
            one = random_lock(seed, manys=manys)
            other = one
            for gap in rng.sample(plain.gaps(one), min(2, len(plain.gaps(one)))):
                other = plain.with_gap(other, gap, lambda price, ways: (max(1, price + rng.randint(-1, 2)), ways[1:]))
            for first, second in ((one, other), (other, one), (one, random_lock(seed + 999, manys=manys))):
                wanted = all(
                    any(step[:2] == more[:2] and step[2] <= more[2] for step in plain.steps(first, stand))
                    for stand in plain.stands(second) for more in plain.steps(second, stand)
                )
                self.assertIs(is_within(first, second), wanted)
                within += wanted
        self.assertTrue(10 < within < 170)

    def test_refusals_in_their_order(self):
        self.assertEqual(self.refused("NoLock", is_within, LOCK[1:], None).fault, ("bolt", 0))
        self.assertEqual(self.refused("NoLock", is_within, LOCK, None).fault, ("lock",))
        for other in (LOCK[:2], LOCK + ((2, ()),), ((3, ()),) + LOCK[1:2] + ((2, ()),), ring_lock(3)):
            self.refused("Unlike", is_within, LOCK, other)
            self.refused("Unlike", is_within, other, LOCK)


if __name__ == "__main__":
    unittest.main()
