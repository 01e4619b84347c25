"""Points 16 and 17: books joined, cut, gone back, mended, and held beside least ways."""

import random
import unittest

from tests import anything, plain
from tests.bookmakers import AROUND, HERE, PAIR, chain, flat, gone, loops, random_book, still
from tests.makers import line_lock, line_place, line_stand, random_lock, random_stand, random_wish, ring_lock
from waitbolts.books import told_way, weighed
from waitbolts.bookwork import astray, back, joined, mended, part_of, settled, waste
from waitbolts.errors import Never, NoBack, NoBook, NoJoin, NoPlace, NoWish, TooLong
from waitbolts.least import least
from waitbolts.readings import stand_at

MANYS = [2, 3, 4] * 20
LINE = line_lock(MANYS)
SIZE = 24 ** 20
# A way there costs one, one on by hand two more, and there is no way back from the end.
FORK = ((4, ((0, 1, 1, ((),)), (0, 2, 1, ((),)), (1, 0, 1, ((),)), (1, 2, 1, ((),)), (2, 3, 4, ((),)))),)


def line_way(here, there):
    """The told way from one place of the great line to another."""
    return told_way(LINE, (line_stand(MANYS, here), line_stand(MANYS, there)))


class JoinedTest(unittest.TestCase):
    def test_one_behind_the_other(self):
        one = (((0, 0), (1, 0), (("step", 0, 1),)),)
        other = (((1, 0), (1, 1), (("step", 1, 1),)),)
        book = joined(PAIR, one, other)
        self.assertEqual(flat(book), [(0, 1), (1, 1)])
        self.assertEqual(weighed(PAIR, book), ((0, 0), (1, 1), 8, 2))

    def test_ways_without_steps(self):
        for one, other in ((still(1), still(2)), (still(1), loops(1)), (loops(1), still(1)), (loops(2), loops(1))):
            book = joined(PAIR, one, other)
            self.assertEqual(flat(book), flat(one) + flat(other))
            self.assertEqual(weighed(PAIR, book)[3], weighed(PAIR, one)[3] + weighed(PAIR, other)[3])

    def test_beside_the_steps_gone(self):
        for seed in range(60):
            rng = random.Random(seed)
            lock = random_lock(seed, many=rng.randint(1, 4), both=True)
            one = random_book(rng, lock, rng.randint(1, 6))
            other = told_way(lock, (one[-1][1], random_wish(rng, lock)))
            if other is None:
                continue
            book = joined(lock, one, other)
            self.assertEqual(flat(book), flat(one) + flat(other))
            _, stands, prices = gone(lock, book)
            self.assertEqual(weighed(lock, book), (stands[0], stands[-1], prices[-1], len(prices) - 1))

    def test_great(self):
        one, other = line_way(5, SIZE // 3), line_way(SIZE // 3, 7)
        book = joined(LINE, one, other)
        self.assertEqual(weighed(LINE, book)[2], 2 * (SIZE // 3) - 12)
        self.assertEqual(stand_at(LINE, book, SIZE // 3 - 5 + 1000), line_stand(MANYS, SIZE // 3 - 1000))

    def test_no_join(self):
        with self.assertRaises(NoJoin):
            joined(PAIR, still(1), still(1, (1, 0)))
        with self.assertRaises(NoJoin):
            joined(PAIR, still(1), still(1, (0, 1)))
        with self.assertRaises(NoJoin):
            joined(PAIR, still(600), still(600, (1, 0)))

    def test_too_long(self):
        self.assertEqual(weighed(PAIR, joined(PAIR, still(500), still(500)))[3], 0)
        for one, other in ((500, 501), (501, 500), (1000, 1), (1, 1000), (30000, 30000)):
            with self.assertRaises(TooLong):
                joined(PAIR, still(one), still(other))
        half = loops(299) + ((HERE, HERE, (("part", 298),) * 5),)
        book = joined(PAIR, half, half)
        self.assertEqual(weighed(PAIR, book)[3], 10 ** 300)
        for other in (loops(1, base=2), half):
            with self.assertRaises(TooLong):
                joined(PAIR, loops(300), other)
            with self.assertRaises(TooLong):
                joined(PAIR, other, loops(300))
        self.assertEqual(weighed(PAIR, joined(PAIR, loops(300), still(1)))[3], 10 ** 300)

    def test_no_book_of_the_first_goes_ahead(self):
        for one, other, part in ((still(2) + (None,), None, 2), (still(1), still(3) + ((),), 3), (None, None, 0)):
            with self.assertRaises(NoBook) as caught:
                joined(PAIR, one, other)
            self.assertEqual(caught.exception.part, part)


class PartOfTest(unittest.TestCase):
    def test_beside_the_steps_gone(self):
        for seed in range(60):
            rng = random.Random(seed)
            lock = random_lock(seed, many=rng.randint(1, 4), both=seed % 3 > 0)
            book = random_book(rng, lock, rng.randint(1, 8))
            steps, stands, prices = gone(lock, book)
            for _ in range(5):
                t, u = sorted([rng.randint(0, len(steps)), rng.randint(0, len(steps))])
                cut = part_of(lock, book, t, u)
                self.assertEqual(flat(cut), steps[t:u])
                self.assertEqual(weighed(lock, cut), (stands[t], stands[u], prices[u] - prices[t], u - t))

    def test_all_and_nothing(self):
        for book in (loops(3), still(2), told_way(PAIR, ((1, 1), (0, 0)))):
            begin, end, price, count = weighed(PAIR, book)
            self.assertEqual(weighed(PAIR, part_of(PAIR, book, 0, count)), (begin, end, price, count))
            self.assertEqual(weighed(PAIR, part_of(PAIR, book, 0, 0)), (begin, begin, 0, 0))
            self.assertEqual(weighed(PAIR, part_of(PAIR, book, count, count)), (end, end, 0, 0))

    def test_what_is_cut_out_whole_does_not_grow(self):
        book = line_way(10, SIZE - 10)
        self.assertEqual(part_of(LINE, book, 0, SIZE - 20), book)
        # Parts that none uses are left behind.
        self.assertEqual(part_of(PAIR, still(5, (1, 1)) + loops(1), 0, 10), loops(1))

    def test_great_loops(self):
        book = loops(300)
        for t, u in ((0, 10 ** 300), (1, 10 ** 300), (0, 10 ** 300 - 1), (7, 10 ** 299 + 8), (5, 5), (5, 6)):
            cut = part_of(PAIR, book, t, u)
            self.assertEqual(weighed(PAIR, cut)[3], u - t)
            self.assertEqual(weighed(PAIR, cut)[:2], ((t % 2, 0), (u % 2, 0)))
        # And such a part may be cut and joined again.
        book = joined(PAIR, part_of(PAIR, book, 3, 10 ** 299), part_of(PAIR, book, 0, 1))
        self.assertEqual(weighed(PAIR, book)[3], 10 ** 299 - 2)

    def test_great_lines(self):
        book = line_way(10, SIZE - 10)
        for t, u in ((0, 1), (SIZE // 5, SIZE // 2), (SIZE // 7, SIZE // 7), (1000, SIZE - 20)):
            cut = part_of(LINE, book, t, u)
            self.assertEqual(weighed(LINE, cut), (
                line_stand(MANYS, 10 + t), line_stand(MANYS, 10 + u), u - t, u - t,
            ))

    def test_many_entries_ahead(self):
        # The steps from t to u are cut out of parts of sixty entries, one in the other.
        parts = [(HERE, HERE, AROUND * 30)]
        for number in range(20):
            parts.append((HERE, HERE, AROUND * 14 + (("part", number),) + AROUND * 15))
        book = tuple(parts)
        count = weighed(PAIR, book)[3]
        cut = part_of(PAIR, book, 3, count - 5)
        self.assertEqual(flat(cut), flat(book)[3:count - 5])
        self.assertEqual(weighed(PAIR, cut)[3], count - 8)

    def test_no_place(self):
        book = loops(1)
        wrong = [(-1, 3), (0, 11), (11, 11), (4, 3), (10, 9), (None, 3), (3, None), (True, 3), (0, True), ("0", 3)]
        wrong += [(0, "3"), ((0,), 3), (3, [3]), (False, False), (0, 10 ** 299), (-10 ** 299, 0), (11, 10)]
        for t, u in wrong + [(0, thing) for thing in anything.plain_things()]:
            with self.assertRaises(NoPlace):
                part_of(PAIR, book, t, u)
        with self.assertRaises(NoPlace):
            part_of(PAIR, still(1001), 0, 1)

    def test_too_long(self):
        self.assertEqual(weighed(PAIR, part_of(PAIR, still(1000), 0, 0))[3], 0)
        with self.assertRaises(TooLong):
            part_of(PAIR, still(1001), 0, 0)


class BackTest(unittest.TestCase):
    def test_to_and_fro(self):
        book = told_way(PAIR, ((0, 0), (0, 1)))
        turned = back(PAIR, book)
        self.assertEqual(flat(turned), [(0, 1), (1, 0), (0, 0)])
        self.assertEqual(weighed(PAIR, turned), ((0, 1), (0, 0), 12, 3))
        self.assertEqual(flat(back(PAIR, turned)), flat(book))

    def test_beside_the_steps_gone(self):
        turned = 0
        for seed in range(150):
            rng = random.Random(seed)
            lock = random_lock(seed, many=rng.randint(1, 3), both=True)
            book = random_book(rng, lock, rng.randint(1, 4))
            turned += self.check(lock, book)
        self.assertTrue(20 < turned < 140)

    def check(self, lock, book):
        """Whether a book can be gone back."""
        steps, stands, _ = gone(lock, book)
        wanted = [(k, stand[k]) for (k, _), stand in zip(steps, stands)][::-1]
        places = stands[-1]
        for k, to in wanted:
            if (k, to) not in [step[:2] for step in plain.steps(lock, places)]:
                with self.assertRaises(NoBack):
                    back(lock, book)
                return False
            places = plain.behind(places, k, to)
        self.assertEqual(flat(back(lock, book)), wanted)
        self.assertEqual(weighed(lock, back(lock, book))[:2], (stands[-1], stands[0]))
        return True

    def test_no_back_is_asked_of_the_steps_of_the_way_alone(self):
        parts = (((2,), (3,), (("step", 0, 3),)), ((0,), (1,), (("step", 0, 1),)))
        self.assertEqual(flat(back(FORK, parts)), [(0, 0)])
        with self.assertRaises(NoBack):
            back(FORK, parts[:1])
        with self.assertRaises(NoBack):
            back(FORK, parts[:1] + (((2,), (3,), (("part", 0),)),))

    def test_the_ways_back_are_those_at_the_stand(self):
        # Back there is a gap, but at another word.
        lock = ((2, ((0, 1, 1, ((),)), (1, 0, 1, ((),)))), (2, ((0, 1, 1, ((0,),)), (1, 0, 1, ((1,),)))))
        with self.assertRaises(NoBack):
            back(lock, (((0, 0), (0, 1), (("step", 1, 1),)),))

    def test_great(self):
        turned = back(PAIR, loops(300))
        self.assertEqual(weighed(PAIR, turned), (HERE, HERE, 25 * 10 ** 299, 10 ** 300))
        turned = back(LINE, line_way(3, SIZE - 5))
        self.assertEqual(weighed(LINE, turned)[2], SIZE - 8)
        self.assertEqual(stand_at(LINE, turned, 5), line_stand(MANYS, SIZE - 10))

    def test_too_long_goes_last(self):
        lock = PAIR[:1]
        self.assertEqual(weighed(lock, back(lock, still(1000, (0,))))[3], 0)
        with self.assertRaises(TooLong):
            back(lock, still(1001, (0,)))
        step = (((2,), (3,), (("step", 0, 3),)),)
        with self.assertRaises(NoBack):
            back(FORK, still(1001, (2,)) + step)
        with self.assertRaises(TooLong):
            back(FORK, step + still(1000, (2,)))


class WasteTest(unittest.TestCase):
    def test_small(self):
        one = (((0,), (1,), (("step", 0, 1),)),)
        self.assertEqual(waste(FORK, one, (3,)), 1)
        self.assertEqual(waste(FORK, one, (1,)), 0)
        self.assertEqual(waste(FORK, one, (0,)), 2)
        self.assertEqual(waste(FORK, one, (None,)), 1)
        two = (((0,), (2,), (("step", 0, 2),)),)
        self.assertIs(waste(FORK, two, (0,)), None)
        self.assertEqual(waste(FORK, two, (3,)), 0)

    def test_never_from_begin(self):
        self.assertIs(waste(FORK, still(1, (3,)), (0,)), None)
        self.assertIs(astray(FORK, still(1, (3,)), (0,)), None)
        with self.assertRaises(Never):
            mended(FORK, still(1, (3,)), (0,))

    def test_from_where_none_leads_on(self):
        two = (((0,), (2,), (("step", 0, 2),)),)
        self.assertEqual(astray(FORK, two, (0,)), 0)
        self.assertEqual(astray(FORK, two, (1,)), 0)
        self.assertEqual(flat(mended(FORK, two, (1,))), [(0, 1)])
        self.assertEqual(flat(mended(FORK, two, (0,))), [])

    def test_beside_the_steps_gone(self):
        for seed in range(80):
            rng = random.Random(seed)
            lock = random_lock(seed, many=rng.randint(1, 4), both=seed % 3 > 0)
            book = random_book(rng, lock, rng.randint(1, 4))
            if seed % 2:
                book = told_way(lock, (random_stand(rng, lock), random_wish(rng, lock))) or book
            self.check(lock, book, random_wish(rng, lock, none=0.3))

    def check(self, lock, book, wish):
        steps, stands, prices = gone(lock, book)
        if len(steps) > 40:
            return
        rest = [least(lock, (stand, wish)) for stand in stands]
        self.assertEqual(waste(lock, book, wish), None if rest[-1] is None else prices[-1] + rest[-1] - rest[0])
        straight = [t for t, more in enumerate(rest) if more is not None and prices[t] + more == rest[0]]
        self.assertEqual(astray(lock, book, wish), straight[-1] if straight else None)
        last = [least(lock, (stand, stands[-1])) for stand in stands]
        least_from = [t for t, price in enumerate(last) if prices[-1] - prices[t] == price]
        self.assertEqual(settled(lock, book), least_from[0])
        if straight:
            whole = mended(lock, book, wish)
            begin, end, price, _ = weighed(lock, whole)
            self.assertEqual((begin, price), (stands[0], rest[0]))
            self.assertTrue(plain.meets(end, wish))
            self.assertEqual(flat(whole)[:straight[-1]], steps[:straight[-1]])
        else:
            with self.assertRaises(Never):
                mended(lock, book, wish)

    def test_great_lines(self):
        # From 10 on to the middle and back again to a third.
        half, third = SIZE // 2, SIZE // 3
        book = joined(LINE, line_way(10, half), line_way(half, third))
        for goal, straight in ((half, half - 10), (half + 99, half - 10), (third, third - 10), (10, 0), (5, 0)):
            wish = line_stand(MANYS, goal)
            self.assertEqual(astray(LINE, book, wish), straight)
            whole = half - 10 + half - third + abs(goal - third) - abs(goal - 10)
            self.assertEqual(waste(LINE, book, wish), whole)
            after = mended(LINE, book, wish)
            self.assertEqual(weighed(LINE, after), (line_stand(MANYS, 10), wish) + (abs(goal - 10),) * 2)
            if straight > 5:
                self.assertEqual(line_place(MANYS, stand_at(LINE, after, straight - 5)), 10 + straight - 5)
        self.assertEqual(settled(LINE, book), half - 10)
        self.assertEqual(settled(LINE, line_way(5, SIZE - 5)), 0)

    def test_great_loops(self):
        book = loops(300)
        self.assertEqual(waste(PAIR, book, HERE), 25 * 10 ** 299)
        self.assertEqual([astray(PAIR, book, wish) for wish in ((1, None), (0, 1), HERE)], [1, 1, 0])
        self.assertEqual(settled(PAIR, book), 10 ** 300 - 1)
        self.assertEqual(settled(PAIR, part_of(PAIR, book, 0, 10 ** 299 + 1)), 10 ** 299)
        self.assertEqual(weighed(PAIR, mended(PAIR, book, (0, 1))), (HERE, (0, 1), 10, 3))

    def test_books_of_thousands_of_parts(self):
        lock = ring_lock(12)
        rng = random.Random(3)
        steps = []
        places = (0,) * 12
        for _ in range(5000):
            k, to, _ = rng.choice(plain.steps(lock, places))
            places = plain.behind(places, k, to)
            steps.append((k, to))
        book = chain(lock, (0,) * 12, steps)
        goal = (0,) * 11 + (1,)
        _, stands, prices = gone(lock, book[:301])
        straight = astray(lock, book, goal)
        self.assertEqual(prices[straight] + least(lock, (stands[straight], goal)), least(lock, (stands[0], goal)))
        more = least(lock, (stands[straight + 1], goal))
        self.assertNotEqual(prices[straight + 1] + more, least(lock, (stands[0], goal)))
        t = settled(lock, book)
        self.assertEqual(5000 - t, least(lock, (stand_at(lock, book, t), places)))
        self.assertNotEqual(5001 - t, least(lock, (stand_at(lock, book, t - 1), places)))

    def test_no_wish_never_and_too_long(self):
        for thing in anything.near_wishes(PAIR, (0, None)) + anything.plain_things():
            for ask in (waste, astray, mended):
                with self.assertRaises(NoWish):
                    ask(PAIR, still(1001), thing)
        with self.assertRaises(Never):
            mended(FORK, still(1001, (3,)), (0,))
        with self.assertRaises(TooLong):
            mended(FORK, still(1001, (3,)), (3,))
        self.assertEqual(flat(mended(FORK, still(1000, (2,)), (3,))), [(0, 3)])
        self.assertEqual(waste(FORK, still(1001, (2,)), (3,)), 0)
        self.assertEqual(astray(FORK, still(1001, (2,)), (3,)), 0)
        self.assertEqual(settled(FORK, still(1001, (2,))), 0)


if __name__ == "__main__":
    unittest.main()
