"""Points 5 and 6: what a lock, a stand and a wish is, and how many stands there are."""

import unittest

from tests import anything
from tests.makers import fork_lock, line_lock, random_lock, ring_lock
from waitbolts.errors import NoLock
from waitbolts.locks import fault_of, is_lock, is_stand, is_wish, stands_of

ALL_WORDS = [(a, b, c, d) for a in (0, 1) for b in (0, 1) for c in (0, 1) for d in (0, 1)]
FOUR = ((2, ()),) * 4


def one_bolt(many, *gaps):
    return ((many, gaps),)


class LockTest(unittest.TestCase):
    def check_fault(self, thing, fault):
        self.assertEqual(fault_of(thing), fault)
        self.assertIs(is_lock(thing), fault is None)

    def test_locks(self):
        for lock in anything.locks() + [ring_lock(60), fork_lock(60), line_lock([4] * 60)]:
            self.check_fault(lock, None)
        for seed in range(60):
            self.check_fault(random_lock(seed, many=1 + seed % 6), None)

    def test_one_bolt_and_sixty(self):
        self.check_fault((), ("lock",))
        self.check_fault(((2, ()),), None)
        self.check_fault(((2, ()),) * 60, None)
        self.check_fault(((2, ()),) * 61, ("lock",))

    def test_two_places_and_four(self):
        for many, fault in ((1, ("bolt", 0)), (2, None), (3, None), (4, None), (5, ("bolt", 0)), (True, ("bolt", 0))):
            self.check_fault(one_bolt(many), fault)
        self.check_fault(one_bolt(4, (0, 3, 1, ((),)), (3, 2, 1, ((),))), None)
        self.check_fault(one_bolt(3, (0, 3, 1, ((),))), ("bolt", 0))

    def test_prices(self):
        for price in (1, 2, 1000000):
            self.check_fault(one_bolt(2, (0, 1, price, ((),))), None)
        for price in (0, -1, 1000001, 10 ** 299, True, None, "1", (1,), [1]):
            self.check_fault(one_bolt(2, (0, 1, price, ((),))), ("bolt", 0))

    def test_gaps_rise_and_are_unlike(self):
        gaps = ((0, 1, 9, ()), (1, 0, 1, ((),)))
        self.check_fault(one_bolt(2, *gaps), None)
        self.check_fault(one_bolt(2, *gaps[::-1]), ("bolt", 0))
        self.check_fault(one_bolt(2, (0, 1, 1, ()), (0, 1, 2, ())), ("bolt", 0))
        self.check_fault(one_bolt(3, (0, 1, 5, ()), (0, 2, 1, ()), (1, 0, 9, ()), (2, 1, 1, ((),))), None)

    def test_all_twelve_gaps_may_be_there(self):
        gaps = [(here, to, 1, ()) for here in range(4) for to in range(4) if here != to]
        self.check_fault(one_bolt(4, *gaps), None)

    def test_ways_rise_and_are_unlike(self):
        for ways, fault in (
            (((0,), (1,)), None), (((1,), (0,)), ("bolt", 1)), (((1,), (1,)), ("bolt", 1)), ((), None),
            (((2,),), ("bolt", 1)), (((True,),), ("bolt", 1)), (((0, 0),), ("bolt", 1)), (((),), ("bolt", 1)),
        ):
            self.check_fault(((2, ()), (2, ((0, 1, 1, ways),))), fault)

    def test_the_lowest_bolt_has_one_word(self):
        self.check_fault(one_bolt(2, (0, 1, 1, ((),))), None)
        self.check_fault(one_bolt(2, (0, 1, 1, ((), ()))), ("bolt", 0))
        self.check_fault(one_bolt(2, (0, 1, 1, ((0,),))), ("bolt", 0))

    def test_eight_ways_and_nine(self):
        eight, nine = tuple(ALL_WORDS[:8]), tuple(ALL_WORDS[:9])
        self.check_fault(FOUR + ((2, ((0, 1, 1, eight),)),), None)
        self.check_fault(FOUR + ((2, ((0, 1, 1, nine),)),), ("bolt", 4))
        self.check_fault(FOUR + ((2, ((0, 1, 1, eight[:4]), (1, 0, 1, eight[:4]))),), None)
        self.check_fault(FOUR + ((2, ((0, 1, 1, eight[:4]), (1, 0, 1, eight[:5]))),), ("bolt", 4))

    def test_eight_words_and_nine(self):
        lock = FOUR + ((2, ((0, 1, 1, tuple(ALL_WORDS[:8])),)),)
        self.check_fault(lock + ((2, ((0, 1, 1, (ALL_WORDS[7] + (1,),)),)),), None)
        self.check_fault(lock + ((2, ((0, 1, 1, (ALL_WORDS[8] + (1,),)),)),), ("words", 4))

    def test_the_first_words_too_many_are_told(self):
        manys = [4, 4, 2, 2]
        bolts = [(many, ()) for many in manys]
        low = sorted((a, b, 0, 0) for a in (0, 1) for b in range(4))
        high = sorted((a, b, 0, 0, 1) for a in (2,) for b in range(4))
        lock = (*bolts, (2, ((0, 1, 1, tuple(low)),)), (2, ((1, 0, 1, tuple(high)),)))
        self.check_fault(lock, ("words", 2))
        self.check_fault(lock[:5], None)

    def test_words_count_cut(self):
        # The ways of both bolts have the same eight words of four places, but sixteen of five.
        low = tuple(word + (0,) for word in ALL_WORDS[::2])
        high = tuple(word + (1, 0) for word in ALL_WORDS[::2])
        lock = FOUR + ((2, ()), (2, ((0, 1, 1, low),)), (2, ((0, 1, 1, high),)))
        self.check_fault(lock, ("words", 5))
        self.check_fault(lock[:6], None)

    def test_the_first_bolt_that_is_none_goes_ahead_of_words(self):
        lock = FOUR + ((2, ((0, 1, 1, tuple(ALL_WORDS[:8])),)), (2, ((0, 1, 1, (ALL_WORDS[8] + (1,),)),)))
        self.check_fault(lock, ("words", 4))
        self.check_fault(lock + ((2, None),), ("bolt", 6))
        self.check_fault(lock + ((2, None), (1, ())), ("bolt", 6))
        self.check_fault((None,) + lock, ("bolt", 0))
        self.check_fault(lock * 11, ("lock",))

    def test_no_locks(self):
        for thing in anything.plain_things():
            self.assertIs(is_lock(thing), False)
            self.assertIn(fault_of(thing), [("lock",), ("bolt", 0)])
        for thing in anything.near_locks():
            self.assertIs(is_lock(thing), False, thing)
        self.check_fault(list(ring_lock(3)), ("lock",))
        self.check_fault(ring_lock(3) + (None,), ("bolt", 3))
        self.check_fault(ring_lock(3)[1:], ("bolt", 0))

    def test_many_words_are_told_soon(self):
        bolts = [(4, ())] * 4
        for k in range(4, 60):
            words = sorted({tuple((k * 8 + n) // 4 ** at % 4 for at in range(k)) for n in range(8)})
            bolts.append((4, ((0, 1, 1, tuple(words)),)))
        self.check_fault(tuple(bolts), ("words", 2))


class StandTest(unittest.TestCase):
    def test_stands_and_wishes(self):
        lock = line_lock([4, 3, 2])
        for a in range(-1, 6):
            for b in range(-1, 6):
                for c in range(-1, 6):
                    fits = 0 <= a < 4 and 0 <= b < 3 and 0 <= c < 2
                    self.assertIs(is_stand(lock, (a, b, c)), fits)
                    self.assertIs(is_wish(lock, (a, b, c)), fits)
        self.assertIs(is_wish(lock, (None, 2, None)), True)
        self.assertIs(is_wish(lock, (None, None, None)), True)
        self.assertIs(is_wish(lock, (None, 3, None)), False)
        self.assertIs(is_wish(lock, (None, True, None)), False)
        self.assertIs(is_stand(lock, (0, None, 0)), False)
        self.assertIs(is_stand(lock, (0, True, 0)), False)

    def test_anything_else_is_none(self):
        for lock in anything.locks():
            stand = (0,) * len(lock)
            for thing in anything.near_stands(lock, stand) + anything.plain_things():
                self.assertIs(is_stand(lock, thing), False)
            for thing in anything.near_wishes(lock, stand) + anything.plain_things():
                if thing != (None,) * len(lock):
                    self.assertIs(is_wish(lock, thing), False)

    def test_stands_of(self):
        self.assertEqual(stands_of(((2, ()),)), 2)
        self.assertEqual(stands_of(line_lock([4, 3, 2])), 24)
        self.assertEqual(stands_of(line_lock([4] * 60)), 4 ** 60)
        self.assertEqual(stands_of(ring_lock(60)), 2 ** 60)

    def test_of_no_lock_all_refuse(self):
        for thing in anything.near_locks() + [None, (), True, {}]:
            for ask in (stands_of, lambda it: is_stand(it, (0,)), lambda it: is_wish(it, None)):
                with self.assertRaises(NoLock) as caught:
                    ask(thing)
                self.assertEqual(caught.exception.fault, fault_of(thing))


if __name__ == "__main__":
    unittest.main()
