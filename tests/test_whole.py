"""Point 4: what all stages tell of one lock and row agrees, at locks of sixty bolts as at small ones."""

import random
import unittest

from tests import plain
from tests.makers import fork_lock, line_lock, random_lock, random_stand, random_wish, ring_lock
from waitbolts import errors
from waitbolts.always import lengths, needed, uses
from waitbolts.behind import bars_behind, behind_paper, keeps_behind
from waitbolts.books import meets, told_way, weighed
from waitbolts.bookwork import astray, back, joined, part_of, settled, waste
from waitbolts.changes import is_within, lower, out_way, renamed, turned
from waitbolts.desk import Desk
from waitbolts.keepers import Keeper
from waitbolts.lean import alike, lean, needless
from waitbolts.least import first_steps, how_many, least
from waitbolts.locks import can_step, stands_of
from waitbolts.made import made, row_of
from waitbolts.papers import bars, keeps, told_paper
from waitbolts.parts import apart, parts, size, together
from waitbolts.reach import come_to, coming, lost
from waitbolts.readings import moves, price_at, stand_at, step_at, times
from waitbolts.texts import read_book, read_lock, read_paper, show_book, show_lock, show_paper


def shown(wish):
    """A wish as it is written."""
    return ",".join("-" if place is None else str(place) for place in wish)


class WholeTest(unittest.TestCase):
    def check(self, lock, row):
        """Just one of two is told of a lock and a row, and all else agrees with it."""
        price, book, paper = least(lock, row), told_way(lock, row), told_paper(lock, row)
        self.assertIs(price is None, book is None)
        self.check_papers(lock, row, price, paper)
        self.check_locks(lock, row, price)
        self.check_counts(lock, row[0], row[-1])
        desk = Desk()
        self.assertEqual(desk.say("lock\n" + show_lock(lock)), "ok")
        words = " ".join(shown(wish) for wish in row)
        self.assertEqual(desk.say("least " + words), "-" if price is None else str(price))
        self.assertEqual(desk.say("coming " + shown(row[-1])), str(coming(lock, row[-1])))
        self.assertEqual(desk.say("comes " + shown(row[0])), str(come_to(lock, row[0])))
        if book is None:
            self.assertEqual([lengths(lock, row), uses(lock, row, []), needed(lock, row)], [None, None, []])
            self.assertEqual(desk.say("way " + words), "-")
            return False
        self.check_book(lock, row, price, book)
        self.assertEqual(desk.say("way " + words), f"{price} {weighed(lock, book)[3]}")
        self.check_keeper(lock, row, price, book)
        return True

    def check_papers(self, lock, row, price, paper):
        """The papers bar what is told, and no more; written and read they are the same."""
        for bar, keep, told in ((bars, keeps, paper), (bars_behind, keeps_behind, behind_paper(lock, row))):
            self.assertTrue(keep(lock, told))
            self.assertTrue(bar(lock, row, price, told))
            self.assertTrue(price is None or not bar(lock, row, price + 1, told))
            self.assertIs(bar(lock, row, None, told), price is None)
            self.assertEqual(read_paper(show_paper(told)), told)
            self.assertTrue(bar(lock, row, price, read_paper(show_paper(told))))

    def check_locks(self, lock, row, price):
        """Locks that are alike tell the same least price."""
        thin = lean(lock)
        self.assertEqual(least(thin, row), price)
        self.assertTrue(is_within(lock, thin))
        self.assertEqual(needless(thin), [])
        self.assertIs(alike(lock, thin), None)
        self.assertEqual(least(turned(lock), row[::-1]), price)
        self.assertEqual(lean(turned(lock)), turned(thin))
        self.assertEqual(read_lock(show_lock(lock)), lock)
        self.assertTrue(bars(lock, row, price, told_paper(lock, row)))
        names = tuple(range(lock[-1][0]))[::-1]
        other = tuple(wish[:-1] + (None if wish[-1] is None else names[wish[-1]],) for wish in row)
        self.assertEqual(least(renamed(lock, len(lock) - 1, names), other), price)

    def check_counts(self, lock, wish, other):
        """Counts of stands agree with least prices and with the lock turned about."""
        stand = tuple(place or 0 for place in wish)
        count = stands_of(lock)
        self.assertEqual(come_to(lock, wish), coming(turned(lock), wish))
        self.assertEqual(coming(lean(lock), other), coming(lock, other))
        self.assertTrue(1 <= coming(lock, other) <= count)
        leads = least(lock, (stand, other)) is not None
        self.assertIs(how_many(lock, stand, other, 1) == 1, leads)
        steps = [step[:2] for step in can_step(lock, stand)]
        gone = lost(lock, stand, other)
        self.assertTrue(set(gone) <= set(steps))
        if not leads:
            self.assertEqual(gone, [])
        self.assertFalse(set(gone) & set(first_steps(lock, stand, other)))
        for k, to in steps[:3]:
            there = least(lock, (stand[:k] + (to,) + stand[k + 1:], other)) is not None
            self.assertIs((k, to) in gone, leads and not there)

    def check_book(self, lock, row, price, book):
        """The told way meets the row for just the price, and is one of the least ways."""
        begin, end, paid, steps = weighed(lock, book)
        self.assertEqual(paid, price)
        self.assertTrue(meets(lock, book, row))
        fewest, most = lengths(lock, row)
        self.assertTrue(fewest <= steps <= most)
        self.assertEqual(sum(moves(lock, book)), steps)
        self.assertTrue(times(lock, book, row[0]) >= 1)
        self.assertEqual(read_book(show_book(book)), book)
        self.assertEqual([stand_at(lock, book, 0), stand_at(lock, book, steps)], [begin, end])
        self.assertEqual(price_at(lock, book, steps), price)
        self.assertTrue(coming(lock, end) >= 1 and least(lock, (begin, end)) is not None)
        if len(row) == 2:
            self.assertEqual(waste(lock, book, end), 0)
            self.assertEqual([astray(lock, book, row[1]), settled(lock, book)], [steps, 0])
            if steps:
                self.assertIn(step_at(lock, book, 0), first_steps(lock, begin, row[1]))

    def check_keeper(self, lock, row, price, book):
        """A keeper goes a way of just the least price, and comes home."""
        begin = weighed(lock, book)[0]
        keeper = Keeper(lock, begin, (None,) * len(lock))
        wishes = row[1:]
        told = keeper.way_to(wishes)
        self.assertEqual(weighed(lock, told)[2], price)
        if price:
            keeper.do(("earn", price))
        keeper.do(("go", wishes, None))
        self.assertEqual([keeper.coins_now(), keeper.paid_now()], [0, price])
        self.assertEqual(keeper.stand_now(), weighed(lock, told)[1])
        self.assertEqual(keeper.gone_now(), weighed(lock, told)[3])

    def test_small_locks(self):
        met = 0
        for seed in range(60):
            rng = random.Random(seed)
            lock = random_lock(seed, many=rng.randint(1, 4), both=seed % 3 == 0)
            row = tuple(random_wish(rng, lock) for _ in range(rng.randint(2, 4)))
            self.assertEqual(least(lock, row), plain.least(lock, row))
            met += self.check(lock, row)
        self.assertTrue(20 < met < 60)

    def test_great_locks(self):
        met = 0
        for seed in range(6):
            rng = random.Random(seed)
            lock = random_lock(seed, manys=[rng.randint(2, 4) for _ in range(60)], greatest=9, both=seed % 3 > 0)
            row = tuple(random_wish(rng, lock, none=0.7) for _ in range(2 + seed % 3))
            met += self.check(lock, row)
        self.assertTrue(0 < met < 6)

    def test_great_rows_and_rings(self):
        for lock in (ring_lock(60), fork_lock(60), line_lock([3, 4] * 30)):
            ends = (0,) * 60, tuple(many - 1 for many, _ in lock)
            self.assertTrue(self.check(lock, ends))
            self.assertTrue(self.check(lock, ends[::-1] + ends[:1]))

    def test_papers_of_another_lock_bar_what_no_step_of_it_undoes(self):
        for seed in range(20):
            rng = random.Random(seed)
            lock = random_lock(seed, many=3, both=True)
            row = tuple(random_wish(rng, lock, none=0.2) for _ in range(2))
            gaps = [(k, here, there, way) for k, here, there in plain.gaps(lock) for gap in lock[k][1]
                    if gap[:2] == (here, there) for way in gap[3]]
            less = out_way(lock, *rng.choice(gaps))
            # Whatever bars ways of a lock bars those of one that has fewer steps.
            self.assertTrue(is_within(lock, less))
            self.assertTrue(bars(less, row, least(lock, row), told_paper(lock, row)))

    def test_locks_that_can_be_gone_back(self):
        for places in ([2] * 60, [3, 4, 2] * 20):
            lock, one, other = row_of(places)
            count = stands_of(lock)
            self.assertEqual([parts(lock), size(lock, one), coming(lock, one)], [[(count, 1)], count, count])
            self.assertIs(together(lock, one, other), True)
            self.assertIs(apart(lock, one, other), None)
            book = told_way(lock, (one, other))
            self.assertEqual(weighed(lock, back(lock, book)), (other, one, count - 1, count - 1))
            self.assertEqual(weighed(lock, joined(lock, book, back(lock, book)))[2], 2 * count - 2)
            self.assertEqual(lost(lock, one, other), [])
            self.assertEqual(lean(lock), lock)
            half = part_of(lock, read_book(show_book(book)), 0, count // 2)
            self.assertEqual(weighed(lock, half)[3], count // 2)
            self.assertEqual(least(lock, (one, weighed(lock, half)[1])), count // 2)

    def test_made_locks_through_all_stages(self):
        for count in (1, 2, 1023, 10 ** 9 + 7, 10 ** 18):
            lock, one, other = made(count)
            self.assertEqual([least(lock, (one, other)), least(turned(lock), (other, one))], [count, count])
            self.assertEqual(lengths(lock, (one, other)), (count, count))
            self.assertEqual(how_many(lock, one, other, 10 ** 60), 1)
            keeper = Keeper(read_lock(show_lock(lock)), one, one)
            keeper.run([("earn", 2 * count), ("go", (other,), None)])
            self.assertEqual([keeper.home_now(), keeper.gone_now(), keeper.coins_now()], [count] * 3)
            with self.assertRaises(errors.Poor):
                keeper.do(("go", (one, other), None))
            keeper.do(("go", (one,), None))
            self.assertEqual([keeper.home_now(), keeper.coins_now()], [0, 0])
            self.assertEqual(least(lower(lock, len(lock)), (one, other)), count)


if __name__ == "__main__":
    unittest.main()
