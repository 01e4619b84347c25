"""Points 2 and 3: what holds of all that is asked, and of all that is refused."""

import copy
import unittest

from tests import anything
from tests.makers import ladder_lock, ring_lock
from waitbolts import errors
from waitbolts.always import lengths, needed, spans, uses
from waitbolts.behind import bars_behind, behind_paper, keeps_behind
from waitbolts.books import meets, told_way, weighed
from waitbolts.bookwork import astray, back, joined, mended, part_of, settled, waste
from waitbolts.changes import (
    is_within, lower, out_gap, out_way, priced, put_gap, put_way, renamed, rusted, turned, upon, without,
)
from waitbolts.keepers import Keeper
from waitbolts.lean import alike, lean, needless
from waitbolts.least import first_steps, how_many, least
from waitbolts.locks import can_step, fault_of, is_lock, is_stand, is_wish, spread, stands_of, walked
from waitbolts.made import made, row_of
from waitbolts.papers import bars, keeps, told_paper
from waitbolts.parts import apart, parts, size, together
from waitbolts.reach import come_to, coming, lost
from waitbolts.readings import moves, price_at, stand_at, step_at, time_at, times
from waitbolts.texts import show_lock

LOCK = ring_lock(3)
STAND = (1, 0, 0)
WISH = (None, 0, 1)
ROW = (STAND, WISH, STAND)
STEPS = [(1, 1), (0, 0)]
BOOK = (((1, 0), (1, 1), (("step", 1, 1),)), ((1, 0, 0), (0, 1, 0), (("part", 0), ("step", 0, 0))))
PLAIN = ((2, ()), (3, ((0, 1, 1, ((0,),)),)))
PAPER = {((0,), (1,)): 1}
MORE = (((0, 1, 0), (0, 1, 1), (("step", 2, 1),)),)

# Of each function the things that are right, and the refusals of what is none, in their order.
CALLS = [
    (stands_of, (LOCK,), ["NoLock"]),
    (is_stand, (LOCK, STAND), ["NoLock"]),
    (is_wish, (LOCK, WISH), ["NoLock"]),
    (can_step, (LOCK, STAND), ["NoLock", "NoStand"]),
    (walked, (LOCK, STAND, STEPS), ["NoLock", "NoStand", "NoStep"]),
    (spread, (LOCK, STAND, 5), ["NoLock", "NoStand", "NoPrice"]),
    (least, (LOCK, ROW), ["NoLock", "NoWishes"]),
    (first_steps, (LOCK, STAND, WISH), ["NoLock", "NoStand", "NoWish"]),
    (how_many, (LOCK, STAND, WISH, 10 ** 60), ["NoLock", "NoStand", "NoWish", "NoMost"]),
    (weighed, (LOCK, BOOK), ["NoLock", "NoBook"]),
    (told_way, (LOCK, ROW), ["NoLock", "NoWishes"]),
    (meets, (LOCK, BOOK, ROW), ["NoLock", "NoBook", "NoWishes"]),
    (step_at, (LOCK, BOOK, 1), ["NoLock", "NoBook", "NoPlace"]),
    (stand_at, (LOCK, BOOK, 2), ["NoLock", "NoBook", "NoPlace"]),
    (price_at, (LOCK, BOOK, 2), ["NoLock", "NoBook", "NoPlace"]),
    (moves, (LOCK, BOOK), ["NoLock", "NoBook"]),
    (times, (LOCK, BOOK, WISH), ["NoLock", "NoBook", "NoWish"]),
    (time_at, (LOCK, BOOK, (None, 1, 0), 1), ["NoLock", "NoBook", "NoWish", "NoPlace"]),
    (joined, (LOCK, BOOK, MORE), ["NoLock", "NoBook", "NoBook"]),
    (part_of, (LOCK, BOOK, 1, 2), ["NoLock", "NoBook", "NoPlace", "NoPlace"]),
    (back, (LOCK, BOOK), ["NoLock", "NoBook"]),
    (waste, (LOCK, BOOK, WISH), ["NoLock", "NoBook", "NoWish"]),
    (astray, (LOCK, BOOK, WISH), ["NoLock", "NoBook", "NoWish"]),
    (mended, (LOCK, BOOK, WISH), ["NoLock", "NoBook", "NoWish"]),
    (settled, (LOCK, BOOK), ["NoLock", "NoBook"]),
    (keeps, (LOCK, PAPER), ["NoLock"]),
    (bars, (LOCK, ROW, 7, PAPER), ["NoLock", "NoWishes", "NoPrice"]),
    (told_paper, (LOCK, ROW), ["NoLock", "NoWishes"]),
    (keeps_behind, (LOCK, PAPER), ["NoLock"]),
    (bars_behind, (LOCK, ROW, 7, PAPER), ["NoLock", "NoWishes", "NoPrice"]),
    (behind_paper, (LOCK, ROW), ["NoLock", "NoWishes"]),
    (uses, (LOCK, ROW, [(0, 0, 1), (2, 1, 0)]), ["NoLock", "NoWishes", "NoGap"]),
    (lengths, (LOCK, ROW), ["NoLock", "NoWishes"]),
    (needed, (LOCK, ROW), ["NoLock", "NoWishes"]),
    (spans, (LOCK, ROW, (0, 0, 1)), ["NoLock", "NoWishes", "NoGap"]),
    (put_gap, (PLAIN, 1, 1, 2, 5), ["NoLock", "NoBolt", "NoGap", "NoGap", "NoPrice"]),
    (out_gap, (PLAIN, 1, 0, 1), ["NoLock", "NoBolt", "NoGap", "NoGap"]),
    (put_way, (PLAIN, 1, 0, 1, (1,)), ["NoLock", "NoBolt", "NoGap", "NoGap", "NoWay"]),
    (out_way, (PLAIN, 1, 0, 1, (0,)), ["NoLock", "NoBolt", "NoGap", "NoGap", "NoWay"]),
    (priced, (PLAIN, 1, 0, 1, 5), ["NoLock", "NoBolt", "NoGap", "NoGap", "NoPrice"]),
    (rusted, (LOCK, {1: 0}), ["NoLock"]),
    (without, (LOCK, {1: 0}, WISH), ["NoLock"]),
    (lower, (LOCK, 2), ["NoLock", "NoBolt"]),
    (renamed, (LOCK, 1, (1, 0)), ["NoLock", "NoBolt", "NoNames"]),
    (turned, (LOCK,), ["NoLock"]),
    (upon, (LOCK, LOCK, STAND), ["NoLock", "NoLock", "NoStand"]),
    (is_within, (LOCK, LOCK), ["NoLock", "NoLock"]),
    (needless, (LOCK,), ["NoLock"]),
    (lean, (LOCK,), ["NoLock"]),
    (alike, (LOCK, LOCK), ["NoLock", "NoLock"]),
    (coming, (LOCK, WISH), ["NoLock", "NoWish"]),
    (come_to, (LOCK, WISH), ["NoLock", "NoWish"]),
    (lost, (LOCK, STAND, WISH), ["NoLock", "NoStand", "NoWish"]),
    (together, (LOCK, STAND, STAND), ["NoLock", "NoStand", "NoStand"]),
    (size, (LOCK, STAND), ["NoLock", "NoStand"]),
    (parts, (LOCK,), ["NoLock"]),
    (apart, (LOCK, STAND, STAND), ["NoLock", "NoStand", "NoStand"]),
    (Keeper, (LOCK, STAND, WISH), ["NoLock", "NoStand", "NoWish"]),
    (show_lock, (LOCK,), ["NoLock"]),
]
# What is told of a keeper is another one each time it is made.
TOLD = [call for call in CALLS if call[0] is not Keeper]


class RefusalsTest(unittest.TestCase):
    def refused(self, ask, given):
        """The name of the refusal of what is given."""
        with self.assertRaises(errors.BoltError) as caught:
            ask(*given)
        return caught.exception.__class__.__name__

    def test_the_first_that_is_due_is_told(self):
        for ask, right, names in CALLS:
            for wrong in range(1, 2 ** len(names)):
                for thing in (None, True, (), [None], {0: None}, "0", -1):
                    if thing is None and "NoPrice" in names and ask in (bars, bars_behind):
                        continue
                    given = [thing if wrong >> n & 1 else one for n, one in enumerate(right)]
                    first = [name for n, name in enumerate(names) if wrong >> n & 1][0]
                    self.assertEqual(self.refused(ask, given), first, (ask, given))

    def test_no_lock_goes_ahead_with_its_fault(self):
        for thing in anything.near_locks() + anything.plain_things():
            for ask, right, _ in CALLS:
                with self.assertRaises(errors.NoLock) as caught:
                    ask(thing, *[None for _ in right[1:]])
                self.assertEqual(caught.exception.fault, fault_of(thing))

    def test_no_step_goes_ahead_of_those_behind_it(self):
        with self.assertRaises(errors.NoStep) as caught:
            walked(LOCK, STAND, [(1, 1), (True, 0), None])
        self.assertEqual(caught.exception.nth, 1)

    def test_no_price_goes_ahead_of_too_wide(self):
        lock = ring_lock(20)
        self.assertEqual(self.refused(spread, (lock, (0,) * 20, -1)), "NoPrice")
        self.assertEqual(self.refused(spread, (lock, (0,) * 20, 10 ** 299)), "TooWide")

    def test_truths_are_no_places(self):
        lock = ((2, ((0, 1, 1, ((),)), (1, 0, 1, ((),)))),)
        self.assertEqual(self.refused(least, (lock, ((False,), (True,)))), "NoWishes")
        self.assertEqual(self.refused(can_step, (lock, (True,))), "NoStand")
        self.assertEqual(self.refused(walked, (lock, (0,), [(False, 1)])), "NoStep")
        self.assertEqual(self.refused(how_many, (lock, (0,), (1,), True)), "NoMost")
        self.assertEqual(self.refused(spread, (lock, (0,), False)), "NoPrice")

    def test_lists_are_no_tuples(self):
        for ask, right, names in CALLS:
            for n, one in enumerate(right):
                if isinstance(one, tuple) and n < len(names):
                    given = right[:n] + (list(one),) + right[n + 1:]
                    self.assertEqual(self.refused(ask, given), names[n])
        self.assertIs(is_stand(LOCK, list(STAND)), False)
        self.assertIs(is_wish(LOCK, list(WISH)), False)


class AskedTest(unittest.TestCase):
    def test_what_is_handed_in_stays(self):
        for ask, right, _ in CALLS:
            kept = copy.deepcopy(right)
            ask(*right)
            self.assertEqual(repr(kept), repr(right))
        for thing in anything.near_locks() + anything.plain_things()[:-5]:
            kept = repr(thing)
            is_lock(thing)
            is_stand(LOCK, thing)
            is_wish(LOCK, thing)
            self.assertEqual(repr(thing), kept)

    def test_steps_stay_where_they_are_refused(self):
        steps = [(1, 1), (1, 1), None]
        with self.assertRaises(errors.NoStep):
            walked(LOCK, STAND, steps)
        self.assertEqual(steps, [(1, 1), (1, 1), None])

    def test_whoever_asks_the_same_is_told_the_same(self):
        for ask, right, _ in TOLD:
            self.assertEqual(repr(ask(*right)), repr(ask(*copy.deepcopy(right))))

    def test_what_is_told_is_the_askers_own(self):
        for ask, given in (
            (can_step, (LOCK, STAND)), (first_steps, (ladder_lock(3), (0, 0, 0), (3, 3, 3))),
            (first_steps, (LOCK, STAND, STAND)), (spread, (LOCK, STAND, 9)), (moves, (LOCK, BOOK)),
            (told_paper, (LOCK, ROW)), (behind_paper, (LOCK, ROW)), (needed, (LOCK, ROW)),
            (spans, (LOCK, ROW, (0, 0, 1))), (needed, (LOCK, (STAND, STAND))), (told_paper, (LOCK, (STAND, STAND))),
            (needless, (LOCK,)), (needless, (PLAIN,)), (lost, (LOCK, STAND, WISH)), (lost, (PLAIN, (0, 0), (0, 0))),
            (parts, (LOCK,)),
        ):
            told = ask(*given)
            kept = copy.deepcopy(told)
            told.clear()
            self.assertEqual(ask(*given), kept)

    def test_the_kinds_of_what_is_told(self):
        self.assertIs(is_lock(LOCK), True)
        self.assertIs(fault_of(LOCK), None)
        self.assertIs(type(fault_of(None)), tuple)
        self.assertIs(type(stands_of(LOCK)), int)
        self.assertTrue(all(type(step) is tuple for step in can_step(LOCK, STAND)))
        stand, price = walked(LOCK, STAND, STEPS)
        self.assertEqual([type(stand), type(price)], [tuple, int])
        self.assertTrue(all(type(stand) is tuple for stand in spread(LOCK, STAND, 9)))
        self.assertEqual([type(least(LOCK, ROW)), type(first_steps(LOCK, STAND, WISH))], [int, list])
        self.assertTrue(all(type(step) is tuple for step in first_steps(LOCK, STAND, WISH)))
        self.assertIs(type(how_many(LOCK, STAND, WISH, 1)), int)

    def test_papers_are_no_part_of_what_made_them(self):
        paper = told_paper(LOCK, ROW)
        kept = copy.deepcopy(paper)
        self.assertIs(bars(LOCK, ROW, least(LOCK, ROW), paper), True)
        self.assertEqual(paper, kept)

    def test_the_kinds_of_what_is_told_of_all_least_ways(self):
        for told in (uses(LOCK, ROW, []), lengths(LOCK, ROW)):
            self.assertEqual([type(told)] + [type(count) for count in told], [tuple, int, int])
        for told in (needed(LOCK, ROW), spans(LOCK, ROW, (0, 0, 1))):
            self.assertIs(type(told), list)
            self.assertTrue(told and all(type(one) is tuple for one in told))
        self.assertTrue(all(type(one) is int for span in spans(LOCK, ROW, (0, 0, 1)) for one in span))

    def test_the_kinds_of_what_is_told_of_stands(self):
        self.assertEqual([type(ask(LOCK)) for ask in (needless, lean, parts)], [list, tuple, list])
        self.assertEqual([type(ask(LOCK, WISH)) for ask in (coming, come_to)], [int, int])
        self.assertEqual([type(lost(PLAIN, (0, 0), (0, 0))), lost(PLAIN, (0, 0), (0, 0))], [list, [(1, 1)]])
        self.assertEqual([type(size(LOCK, STAND)), together(LOCK, STAND, STAND)], [int, True])
        self.assertEqual([type(told) for told in parts(LOCK)], [tuple])
        self.assertEqual([type(row_of([2])), type(made(1))], [tuple, tuple])

    def test_the_kinds_of_what_is_told_of_books(self):
        self.assertEqual([type(thing) for thing in weighed(LOCK, BOOK)], [tuple, tuple, int, int])
        self.assertIs(meets(LOCK, BOOK, (STAND, (0, 1, 0))), True)
        self.assertEqual([type(ask(LOCK, BOOK, 1)) for ask in (step_at, stand_at, price_at)], [tuple, tuple, int])
        self.assertEqual([type(moves(LOCK, BOOK)), type(times(LOCK, BOOK, WISH))], [list, int])
        self.assertEqual([type(ask(LOCK, BOOK, WISH)) for ask in (waste, astray)], [int, int])
        self.assertIs(type(settled(LOCK, BOOK)), int)
        told = [told_way(LOCK, ROW), joined(LOCK, BOOK, MORE), part_of(LOCK, BOOK, 1, 2), back(LOCK, BOOK)]
        for book in told + [mended(LOCK, BOOK, WISH)]:
            things = [book] + [part for part in book] + [thing for part in book for thing in part + part[2]]
            self.assertTrue(all(type(thing) is tuple for thing in things))
            weighed(LOCK, book)


if __name__ == "__main__":
    unittest.main()
