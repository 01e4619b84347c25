"""Points 11 to 13: books weighed, told of least ways, and held beside rows of wishes."""

import random
import unittest

from tests import anything
from tests.bookmakers import AROUND, HERE, PAIR, chain, flat, gone, loops, met, random_book, still
from tests.makers import (
    ladder_lock, line_lock, line_place, line_stand, random_lock, random_stand, random_wish, ring_lock,
)
from tests.plain import meets as plain_meets
from waitbolts.books import meets, told_way, weighed
from waitbolts.errors import NoBook, NoLock, NoWishes
from waitbolts.least import least

UP = ("step", 0, 1)
DOWN = ("step", 0, 0)
BOOK = (((0,), (1,), (UP,)), ((1, 0), (1, 1), (("step", 1, 1),)), ((0, 0), (0, 1), (("part", 0), ("part", 1), DOWN)))


class WeighedTest(unittest.TestCase):
    def refused(self, lock, book, part):
        with self.assertRaises(NoBook) as caught:
            weighed(lock, book)
        self.assertEqual(caught.exception.part, part)

    def test_ways(self):
        self.assertEqual(weighed(PAIR, BOOK), ((0, 0), (0, 1), 10, 3))
        self.assertEqual(weighed(PAIR, still(1, (1, 0))), ((1, 0), (1, 0), 0, 0))
        self.assertEqual(weighed(PAIR, loops(1, base=2)), (HERE, HERE, 5, 2))

    def test_parts_that_none_uses_are_let_by(self):
        aside = (((1,), (0,), (DOWN,)),) * 5
        self.assertEqual(weighed(PAIR, aside + still(1)), (HERE, HERE, 0, 0))
        self.refused(PAIR, aside + (((1,), (1,), (DOWN,)),) + still(1), 5)

    def test_counts_of_parts_and_entries(self):
        for many in (1, 2, 30000):
            self.assertEqual(weighed(PAIR, still(many)), (HERE, HERE, 0, 0))
        self.refused(PAIR, still(30001), 0)
        self.refused(PAIR, (None,) * 30001, 0)
        self.refused(PAIR, still(29999) + (None,), 29999)
        self.assertEqual(weighed(PAIR, ((HERE, HERE, AROUND * 30),)), (HERE, HERE, 150, 60))
        self.refused(PAIR, ((HERE, (1, 0), AROUND * 30 + (UP,)),), 0)
        self.refused(PAIR, still(1) + ((HERE, HERE, (("part", 0),) * 61),), 1)

    def test_counts_of_steps(self):
        most = loops(300)
        self.assertEqual(weighed(PAIR, most), (HERE, HERE, 25 * 10 ** 299, 10 ** 300))
        self.assertEqual(weighed(PAIR, most + ((HERE, HERE, (("part", 299),)),))[3], 10 ** 300)
        self.refused(PAIR, most + ((HERE, (1, 0), (("part", 299), UP)),), 300)
        self.refused(PAIR, loops(301), 300)
        # A part that is too long is none, though none uses it.
        self.refused(PAIR, loops(301) + still(1), 300)

    def test_the_last_part_has_all_bolts(self):
        self.refused(PAIR, BOOK[:1], 1)
        self.refused(PAIR, BOOK + BOOK[:1], 4)
        self.assertEqual(weighed(PAIR[:1], BOOK[:1]), ((0,), (1,), 3, 1))
        # A part that is none goes ahead.
        self.refused(PAIR, BOOK[:1] + (None,) + BOOK[:1], 1)

    def test_no_tuple_of_parts(self):
        for thing in (None, (), [], list(BOOK), {}, "book", 0, True, {0: BOOK[0]}):
            self.refused(PAIR, thing, 0)

    def test_parts_that_are_none(self):
        begin, end, entries = BOOK[2]
        parts = [
            None, (), (begin, end), (begin, end, entries, ()), [begin, end, entries], (list(begin), end, entries),
            (begin, list(end), entries), (begin, end, list(entries)), ((), (), ()), (begin, end, None),
            ((0, 0, 0), (0, 0, 0), ()), (begin, end + (0,), entries), (begin, (0,), entries), ((0,), (0, 1), entries),
            ((0, 2), (0, 2), ()), ((0, -1), (0, -1), ()), ((False, 0), end, entries), (begin, (0, True), entries),
            ((0, None), (0, None), ()), (begin, (1, 1), entries), ((1, 0), end, entries), ((0, 1), end, entries),
        ]
        for part in parts:
            self.refused(PAIR, BOOK[:2] + (part,), 2)
            self.refused(PAIR, BOOK[:2] + (part,) + BOOK[2:], 2)
            self.refused(PAIR, (part,) + BOOK, 0)

    def test_entries_that_are_none(self):
        begin, end, entries = BOOK[2]
        wrong = [
            None, (), [], "step", ("step",), ("step", 0), ("step", 0, 1, 0), ["step", 0, 1], ("steps", 0, 1),
            ("part",), ("part", 0, 0), ["part", 0], ("use", 0), (None, 0), ("step", 0, 0), ("step", 0, 2),
            ("step", 2, 0), ("step", -1, 1), ("step", 1, 1), ("step", False, 1), ("step", 0, True), ("step", None, 1),
            ("step", 0, None), ("step", "0", 1), ("step", 10 ** 299, 1), ("step", 0, 10 ** 299), ("part", 2),
            ("part", 3), ("part", -1), ("part", -3), ("part", False), ("part", None), ("part", "0"), ("part", 1),
            ("part", 10 ** 299), ("part", ()), ("part", [0]), ("step", [0], {}), (["part"], 0), ({}, 0, 1),
        ]
        for entry in wrong:
            self.refused(PAIR, BOOK[:2] + ((begin, end, (entry,) + entries[1:]),), 2)
            self.refused(PAIR, BOOK[:2] + ((begin, end, (entry,) + entries),), 2)
            self.refused(PAIR, BOOK[:2] + ((begin, end, (entry,) + entries),) + still(1), 2)

    def test_truths_do_not_stand_for_numbers(self):
        # Without the truths these are parts.
        for entries in ((("step", 0, 1), ("step", 0, 0)), (("part", 0), ("part", 1))):
            parts = (((0,), (1,), (UP,)), ((1,), (0,), (DOWN,)))
            weighed(PAIR, parts + ((HERE, HERE, entries),))
            for nth in (0, 1):
                for at in range(1, len(entries[nth])):
                    entry = entries[nth][:at] + (bool(entries[nth][at]),) + entries[nth][at + 1:]
                    given = entries[:nth] + (entry,) + entries[nth + 1:]
                    self.refused(PAIR, parts + ((HERE, HERE, given),), 2)

    def test_a_part_that_comes_later_or_has_more_bolts(self):
        self.refused(PAIR, ((HERE, HERE, (("part", 0),)),), 0)
        self.refused(PAIR, ((HERE, HERE, (("part", 1),)),) + still(1), 0)
        self.refused(PAIR, still(1) + (((0,), (0,), (("part", 0),)),) + still(1), 1)
        self.assertEqual(weighed(PAIR, still(1) + ((HERE, HERE, (("part", 0),)),))[3], 0)

    def test_a_part_begins_where_the_bolts_stand(self):
        parts = BOOK[:2] + (((1, 0), (0, 1), (("part", 1), DOWN)),)
        self.assertEqual(weighed(PAIR, parts), ((1, 0), (0, 1), 7, 2))
        self.refused(PAIR, BOOK[:2] + (((0, 0), (0, 1), (("part", 1), DOWN)),), 2)
        self.refused(PAIR, BOOK[:2] + (((1, 0), (1, 0), (("part", 0),)),), 2)

    def test_a_part_of_fewer_bolts_is_gone_at_all_places_above(self):
        turn = ((0,), (0,), AROUND)
        for top in (0, 1):
            self.assertEqual(weighed(PAIR, (turn, ((0, top), (0, top), (("part", 0),) * 3)))[2:], (15, 6))

    def test_beside_the_steps_gone(self):
        for seed in range(80):
            rng = random.Random(seed)
            lock = random_lock(seed, many=rng.randint(1, 5), both=seed % 3 > 0)
            book = random_book(rng, lock, rng.randint(1, 8))
            steps, stands, prices = gone(lock, book)
            self.assertEqual(weighed(lock, book), (stands[0], stands[-1], prices[-1], len(steps)))

    def test_of_anything(self):
        for thing in anything.plain_things():
            many = len(thing) if isinstance(thing, tuple) else 0
            with self.assertRaises(NoBook) as caught:
                weighed(ring_lock(3), thing)
            self.assertIn(caught.exception.part, (0, many))

    def test_no_lock_goes_ahead(self):
        for lock in (None, (), [PAIR], PAIR[1:]):
            with self.assertRaises(NoLock):
                weighed(lock, None)

    def test_deep_chains(self):
        lock = line_lock([2] * 60)
        steps = [(0, 1), (0, 0)] * 14999 + [(0, 1)]
        self.assertEqual(weighed(lock, chain(lock, (0,) * 60, steps))[2:], (29999, 29999))
        # Parts without steps may be gone more often than can be counted.
        book = still(1) + tuple((HERE, HERE, (("part", n),) * 3) for n in range(29999))
        self.assertEqual(weighed(PAIR, book), (HERE, HERE, 0, 0))


class ToldWayTest(unittest.TestCase):
    def check(self, lock, row):
        """A told way weighs the least price, meets its row, and is told the same again."""
        book = told_way(lock, row)
        price = least(lock, row)
        if price is None:
            self.assertIs(book, None)
            return None
        begin, end, paid, steps = weighed(lock, book)
        self.assertEqual(paid, price)
        self.assertTrue(plain_meets(begin, row[0]) and plain_meets(end, row[-1]))
        self.assertIs(meets(lock, book, row), True)
        self.assertEqual(told_way(lock, row), book)
        return book

    def test_small_locks(self):
        for seed in range(150):
            rng = random.Random(seed)
            lock = random_lock(seed, many=rng.randint(1, 5), both=seed % 3 > 0)
            row = tuple(random_wish(rng, lock, none=0.5) for _ in range(rng.randint(2, 4)))
            book = self.check(lock, row)
            if book is not None:
                self.assertTrue(met(gone(lock, book)[1], row))

    def test_never(self):
        self.assertIs(told_way(((2, ()),), ((0,), (1,))), None)
        self.assertIs(told_way(ring_lock(59) + ((2, ()),), ((0,) * 60, (None,) * 59 + (1,), (0,) * 60)), None)

    def test_no_steps(self):
        for lock in anything.locks():
            stand = (1,) * len(lock)
            free = (None,) * len(lock)
            for row in ((stand, stand), (free, stand, free), (free,) * 4, (free, free), (stand, free, stand, free)):
                book = self.check(lock, row)
                self.assertEqual(weighed(lock, book)[2:], (0, 0))

    def test_great_lines(self):
        for manys in ([4] * 60, [2] * 60, [2, 3, 4] * 20):
            lock = line_lock(manys)
            rng = random.Random(len(set(manys)))
            for many in (2, 3, 4):
                row = tuple(random_stand(rng, lock) for _ in range(many))
                book = self.check(lock, row)
                places = [line_place(manys, stand) for stand in row]
                price = sum(abs(one - other) for one, other in zip(places, places[1:]))
                self.assertEqual(weighed(lock, book), (row[0], row[-1], price, price))

    def test_great_locks_within_the_bounds_of_books(self):
        for seed in range(6):
            rng = random.Random(seed)
            manys = [[4] * 60, [2, 3, 4] * 20][seed % 2]
            lock = random_lock(seed, manys=manys, greatest=(1, 1000000)[seed % 2], both=True)
            for none in (0, 0.5, 1):
                row = tuple(random_wish(rng, lock, none=none) for _ in range(rng.randint(3, 4)))
                book = self.check(lock, row)
                self.assertLessEqual(len(book), 30000)
                self.assertTrue(all(len(entries) <= 60 for _, _, entries in book))
                self.assertTrue(all(type(thing) is tuple for part in book for thing in part + part[2]))

    def test_bolts_that_only_stand(self):
        # Nothing is wanted of some bolts, and those at the top have no gaps.
        lock = ring_lock(3) + ((3, ()), (2, ()))
        for row in (
            ((None,) * 5, (None, None, 1, None, None)), ((0, 0, 0, 2, None), (None, None, 1, None, 1)),
            ((0,) * 5, (None, 1, None, None, 0), (None, None, 1, 0, None)),
        ):
            self.check(lock, row)

    def test_no_wishes(self):
        for thing in anything.plain_things() + [((0, 0, 0),), ((0, 0, 0),) * 5, ((0, 0), (0, 0))]:
            with self.assertRaises(NoWishes):
                told_way(ring_lock(3), thing)


class MeetsTest(unittest.TestCase):
    def test_the_first_and_the_last_stand(self):
        self.assertIs(meets(PAIR, BOOK, ((0, 0), (0, 1))), True)
        self.assertIs(meets(PAIR, BOOK, ((None, None), (None, 1))), True)
        self.assertIs(meets(PAIR, BOOK, ((1, 0), (0, 1))), False)
        self.assertIs(meets(PAIR, BOOK, ((0, 0), (1, 1))), False)
        # The stands of the way are 0 0, 1 0, 1 1, 0 1.
        self.assertIs(meets(PAIR, BOOK, ((0, 0), (1, 1), (0, 1))), True)
        self.assertIs(meets(PAIR, BOOK, ((0, 0), (1, 0), (1, 1), (0, 1))), True)

    def test_in_their_order(self):
        self.assertIs(meets(PAIR, BOOK, ((0, 0), (1, 1), (1, 0), (0, 1))), False)
        self.assertIs(meets(PAIR, BOOK, ((0, 0), (None, 1), (None, 0), (0, 1))), False)
        self.assertIs(meets(PAIR, BOOK, ((0, 0), (None, 0), (None, 1), (0, 1))), True)
        self.assertIs(meets(PAIR, loops(3), (HERE, (1, 0), (0, 0), HERE)), True)
        self.assertIs(meets(PAIR, loops(3), (HERE, (1, 0), (0, 1), HERE)), False)

    def test_one_stand_meets_several(self):
        self.assertIs(meets(PAIR, still(2), (HERE, (None, 0), (0, None), HERE)), True)
        self.assertIs(meets(PAIR, still(2), (HERE, (None, 1), (0, None), HERE)), False)
        self.assertIs(meets(PAIR, BOOK, ((0, 0), (0, 0), (0, 1), (0, 1))), True)
        self.assertIs(meets(PAIR, BOOK, ((0, 0), (1, 1), (1, None), (0, 1))), True)
        self.assertIs(meets(PAIR, BOOK, ((0, 0), (1, 1), (1, 1), (0, 1))), True)

    def test_the_first_stand_and_the_last_may_meet_those_between(self):
        book = ((HERE, (1, 0), (UP,)),)
        self.assertIs(meets(PAIR, book, (HERE, HERE, (1, 0), (1, 0))), True)
        self.assertIs(meets(PAIR, book, (HERE, (1, 0), HERE, (1, 0))), False)

    def test_a_wish_that_bolts_above_a_part_do_not_meet(self):
        turn = ((0,), (0,), AROUND)
        for top in (0, 1):
            book = (turn, ((0, top), (0, top), (("part", 0),)))
            for wanted in (0, 1, None):
                row = ((None, None), (1, wanted), (None, None))
                self.assertIs(meets(PAIR, book, row), wanted in (None, top))

    def test_beside_the_steps_gone(self):
        for seed in range(120):
            rng = random.Random(seed)
            lock = random_lock(seed, many=rng.randint(1, 5), both=seed % 3 > 0)
            book = random_book(rng, lock, rng.randint(1, 8))
            stands = gone(lock, book)[1]
            for _ in range(5):
                between = tuple(random_wish(rng, lock, none=0.7) for _ in range(rng.randint(0, 2)))
                row = (stands[0],) + between + (stands[-1],)
                self.assertIs(meets(lock, book, row), met(stands, row), (lock, book, row))

    def test_great_lines(self):
        manys = [2, 3, 4] * 20
        lock = line_lock(manys)
        count = 24 ** 20
        ends = line_stand(manys, 0), line_stand(manys, count - 1)
        book = told_way(lock, ends)
        rng = random.Random(1)
        for _ in range(20):
            one, other = sorted([rng.randrange(count), rng.randrange(count)])
            one, other = line_stand(manys, one), line_stand(manys, other)
            self.assertIs(meets(lock, book, (ends[0], one, other, ends[1])), True)
            self.assertIs(meets(lock, book, (ends[0], other, one, ends[1])), False)
            self.assertIs(meets(lock, book, (ends[0], other, ends[1])), True)
            self.assertIs(meets(lock, book, (one, other, ends[1])), False)

    def test_no_book_then_no_wishes(self):
        for thing in anything.plain_things():
            with self.assertRaises(NoBook):
                meets(ring_lock(3), thing, None)
            with self.assertRaises(NoWishes):
                meets(ring_lock(3), still(1, (0, 0, 0)), thing)


class FlatTest(unittest.TestCase):
    def test_told_ways_of_ladders(self):
        lock = ladder_lock(4)
        book = told_way(lock, ((0,) * 4, (3,) * 4))
        self.assertEqual([k for k, _ in flat(book)], [0, 0, 1, 1, 2, 2, 3, 3])


if __name__ == "__main__":
    unittest.main()
