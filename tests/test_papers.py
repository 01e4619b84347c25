"""Points 18 to 20: papers that bar whatever is cheaper, from the first wish on and from behind."""

import itertools
import random
import unittest

from tests import anything, plain
from tests.makers import fork_lock, ladder_lock, line_lock, random_lock, random_stand, random_wish, ring_lock
from waitbolts.behind import bars_behind, behind_paper, keeps_behind
from waitbolts.errors import NoLock, NoPrice, NoWishes
from waitbolts.least import least
from waitbolts.papers import bars, keeps, told_paper

# One bolt: from 0 to 1 for five, on to 2 for three, and back from 2 to 0 for one.
SINGLE = ((3, ((0, 1, 5, ((),)), (1, 2, 3, ((),)), (2, 0, 1, ((),)))),)
# The upper bolt goes up while the lower one is at 1, or at 0 for more.
DOUBLE = (
    (2, ((0, 1, 2, ((),)), (1, 0, 4, ((),)))),
    (3, ((0, 1, 7, ((1,),)), (0, 2, 9, ((0,),)), (1, 2, 1, ((0,), (1,))))),
)


class RuleTest(unittest.TestCase):
    def check(self, lock, paper, kept, back=False):
        """Whether a paper keeps, as told and as the rules are written."""
        self.assertIs((keeps_behind if back else keeps)(lock, paper), kept)
        self.assertIs(plain.keeps(lock, paper, back), kept)

    def test_an_empty_paper_keeps(self):
        for lock in anything.locks():
            self.check(lock, {}, True)
            self.check(lock, {}, True, back=True)

    def test_a_step(self):
        # No more than the step's price, where nothing is said of what is ahead of it and behind it.
        for number, kept in ((1, True), (5, True), (6, False), (None, False)):
            self.check(SINGLE, {((0,), (1,)): number}, kept)
            self.check(SINGLE, {((0,), (1,)): number}, kept, back=True)

    def test_what_is_said_of_the_rest(self):
        rest = {((1,), (2,)): 3}
        for number, kept in ((8, True), (9, False), (None, False)):
            self.check(SINGLE, {**rest, ((0,), (2,)): number}, kept)
        self.check(SINGLE, {((0,), (2,)): 6}, False)
        self.check(SINGLE, {((0,), (2,)): 5}, True)
        rest = {((0,), (1,)): 5}
        for number, kept in ((8, True), (9, False), (None, False)):
            self.check(SINGLE, {**rest, ((0,), (2,)): number}, kept, back=True)
        self.check(SINGLE, {((0,), (2,)): 4}, False, back=True)
        self.check(SINGLE, {((0,), (2,)): 3}, True, back=True)

    def test_never(self):
        # There is no gap from 1, and none to 0.
        lock = ((2, ((0, 1, 1, ((),)),)),)
        self.check(lock, {((1,), (0,)): None}, True)
        self.check(lock, {((1,), (0,)): None}, True, back=True)
        self.check(lock, {((0,), (1,)): None}, False)
        # A gap without ways lets nobody by.
        lock = ((2, ((1, 0, 1, ()),)),)
        self.check(lock, {((1,), (0,)): None}, True)
        self.check(lock, {((1,), (0,)): None}, True, back=True)

    def test_never_and_a_number_together_are_never(self):
        lock = ((3, ((0, 1, 1, ((),)), (2, 1, 1, ((),)))),)
        paper = {((1,), (2,)): None, ((0,), (2,)): None}
        self.check(lock, paper, True)
        self.check(lock, {((0,), (2,)): None}, False)
        self.check(lock, {((1,), (2,)): None, ((0,), (2,)): 10 ** 200}, True)
        self.check(lock, {((1,), (2,)): 10 ** 200, ((0,), (2,)): None}, False)

    def test_one_place_or_none_says_what_those_below_say(self):
        below = {((0,), (1,)): 2}
        for places in ((0, 0), (None, 2), (1, None), (None, None)):
            for number, kept in ((1, True), (2, True), (3, False), (None, False)):
                row = ((0, places[0]), (1, places[1]))
                for back in (False, True):
                    self.check(DOUBLE, {**below, row: number}, kept, back=back)
                    # Nothing is said of those below.
                    self.check(DOUBLE, {row: number}, False, back=back)

    def test_of_no_bolts_nothing_is_said(self):
        for row in (((0,), (0,)), ((None,), (1,)), ((None,), (None,)), ((1,), (None,), (1,))):
            for number in (1, None):
                self.check(SINGLE, {row: number}, False)
                self.check(SINGLE, {row: number}, False, back=True)

    def test_what_is_said_ahead_of_a_step(self):
        row = ((0, 0), (0, 2))
        # By 1, ahead of which the lower bolt goes up, for 2, or at once for 9.
        self.check(DOUBLE, {row: 7}, True)
        self.check(DOUBLE, {row: 8}, False)
        self.check(DOUBLE, {((0,), (1,)): 2, row: 9}, True)
        self.check(DOUBLE, {((0,), (1,)): 2, row: 10}, False)
        self.check(DOUBLE, {((0,), (1,)): 1, row: 8}, True)
        self.check(DOUBLE, {((0,), (1,)): 1, row: 9}, False)

    def test_the_place_is_that_of_the_first_wish_that_has_one(self):
        self.check(SINGLE, {((None,), (0,), (1,)): 5}, True)
        self.check(SINGLE, {((None,), (1,), (2,)): 5}, False)
        self.check(SINGLE, {((None,), (1,), (2,)): 3}, True)
        # From behind it is that of the last one.
        self.check(SINGLE, {((0,), (1,), (None,)): 5}, True, back=True)
        self.check(SINGLE, {((1,), (2,), (None,)): 5}, False, back=True)

    def test_the_first_wishes_may_be_met_ahead_of_a_step(self):
        # The step may be done behind each of the first two wishes.
        row = ((0,), (0,), (1,))
        rest = {((1,), (0,), (1,)): 3}
        self.check(SINGLE, {**rest, row: 5}, True)
        self.check(SINGLE, {**rest, row: 6}, False)
        row = ((0, 0), (1, 0), (0, 2))
        ahead = {((0,), (1,)): 2, ((0,), (1,), (0,)): 6, ((1,), (1,), (0,)): 4}
        self.check(DOUBLE, {**ahead, row: 7}, True)
        # Behind the second wish nothing is said of the lower bolt's way there.
        self.check(DOUBLE, {**ahead, row: 9}, False)
        ahead[((0,), (1,), (1,))] = 2
        self.check(DOUBLE, {**ahead, row: 9}, True)
        self.check(DOUBLE, {**ahead, row: 10}, False)

    def test_numbers_and_forms(self):
        row = ((0,), (1,))
        for number in (0, -1, True, False, "1", (), [1], {}, (1,)):
            self.check_none({row: number})
        for wrong in (
            (), ((0,),), ((0,), (1,), (0,), (1,), (0,)), ((0,), (1, 0)), ((), ()), ((0, 0), (1, 0)), (0, 1), (None, None),
            ((0,), (3,)), ((0,), (-1,)), ((False,), (1,)), ((0,), (True,)), ((0,), ("1",)), ((0,), 1), ((0,), None),
            "01", 0, None, True, ((0,), ((1,),)), row + (None,), row + ((10 ** 299,),),
        ):
            self.check_none({wrong: 1})
            self.check_none({((2,), (0,)): 1, wrong: 1})
            self.check_none({wrong: None})

    def check_none(self, thing):
        self.assertIs(keeps(SINGLE, thing), False)
        self.assertIs(keeps_behind(SINGLE, thing), False)
        self.assertIs(bars(SINGLE, ((0,), (1,)), 0, thing), False)
        self.assertIs(bars_behind(SINGLE, ((0,), (1,)), 0, thing), False)

    def test_anything(self):
        for thing in anything.plain_things() + [[((0,), (1,))], [(((0,), (1,)), 1)], SINGLE, anything.deep(14, "dict")]:
            if thing != {}:
                self.check_none(thing)

    def test_truths_do_not_stand_for_places(self):
        # A paper that keeps but for a truth, which equals its number.
        paper = {((0,), (1,)): 5, ((1,), (2,)): 3, ((0,), (2,)): 8}
        self.check(SINGLE, paper, True)
        for row in paper:
            wrong = dict(paper)
            del wrong[row]
            self.check_none({**wrong, tuple(tuple(bool(p) if p < 2 else p for p in wish) for wish in row): paper[row]})
        self.check_none({((0,), (1,)): True})

    def test_so_many_rows(self):
        lock = ((4, ()), (4, ((0, 1, 1, ((0,),)), (1, 0, 1, ((0,),)))))
        wishes = list(itertools.product([0, 1, 2, 3, None], repeat=2))
        rows = (row for row in itertools.product(wishes, repeat=4) if row[0][1] == 0 and row[3][1] == 1)
        paper = {row: 1 for row in itertools.islice(rows, 9375)}
        self.assertEqual(len(paper), 9375)
        rows = (row for row in itertools.product(wishes, repeat=4) if row[0][1] == 2 and row[3][1] in (0, 1, 3))
        paper.update({row: None for row in itertools.islice(rows, 28125)})
        rows = (row for row in itertools.product(wishes, repeat=4) if row[0][1] == 3 and row[3][1] in (0, 1, 2))
        paper.update({row: 10 ** 299 for row in itertools.islice(rows, 2500)})
        self.assertEqual(len(paper), 40000)
        self.assertIs(keeps(lock, paper), True)
        self.assertIs(keeps_behind(lock, {}), True)
        paper[((0, 1), (0, 0))] = 1
        self.assertIs(keeps(lock, paper), False)
        del paper[((0, 1), (0, 0))]
        self.assertIs(keeps(lock, paper), True)
        turned = {row[::-1]: number for row, number in paper.items()}
        self.assertIs(keeps_behind(lock, turned), True)
        turned[((0, 1), (0, 0))] = 1
        self.assertIs(keeps_behind(lock, turned), False)

    def test_beside_the_rules_as_written(self):
        rng = random.Random(5)
        kept = 0
        for seed in range(150):
            lock = random_lock(seed, many=rng.randint(1, 4), both=seed % 3 > 0)
            row = tuple(random_wish(rng, lock, none=0.4) for _ in range(rng.randint(2, 4)))
            for back in (False, True):
                paper = (behind_paper if back else told_paper)(lock, row)
                self.check(lock, paper, True, back=back)
                for _ in range(4):
                    some = self.otherwise(rng, paper)
                    told = (keeps_behind if back else keeps)(lock, some)
                    self.assertIs(told, plain.keeps(lock, some, back), (lock, some))
                    kept += told
                    if told and len(lock) < 4:
                        self.check_sound(lock, some)
        self.assertTrue(100 < kept < 1100)

    def otherwise(self, rng, paper):
        """A paper with some rows otherwise."""
        some = dict(paper)
        for row in rng.sample(list(paper), min(len(paper), rng.randint(1, 3))):
            change = rng.randrange(4)
            if change == 0:
                del some[row]
            elif some[row] is None:
                some[row] = rng.randint(1, 40)
            else:
                some[row] = rng.choice([None, some[row] + 1, max(1, some[row] - 1), max(1, some[row] // 2)])
        return some

    def check_sound(self, lock, paper):
        """No row of a paper that keeps says more than the least price."""
        for row, number in list(paper.items())[:5]:
            price = plain.least(lock[:len(row[0])], row)
            self.assertTrue(price is None or (number is not None and number <= price))


class BarsTest(unittest.TestCase):
    ROW = ((0,), (2,))
    PAPER = {((0,), (1,)): 5, ((1,), (2,)): 3, ((0,), (2,)): 8}

    def test_no_less_than_the_price(self):
        for bar in (bars, bars_behind):
            for price, barred in ((0, True), (1, True), (7, True), (8, True), (9, False), (None, False)):
                self.assertIs(bar(SINGLE, self.ROW, price, self.PAPER), barred)
            self.assertIs(bar(SINGLE, self.ROW, 10 ** 299, self.PAPER), False)
            self.assertIs(bar(SINGLE, self.ROW, 8, {**self.PAPER, ((0,), (2,)): 9}), False)

    def test_a_row_that_is_not_there_says_0(self):
        for bar in (bars, bars_behind):
            for price, barred in ((0, True), (1, False), (None, False)):
                self.assertIs(bar(SINGLE, ((2,), (1,)), price, self.PAPER), barred)
                self.assertIs(bar(SINGLE, ((2,), (1,)), price, {}), barred)

    def test_a_row_that_says_never(self):
        lock = ((2, ((0, 1, 1, ((),)),)),)
        for bar in (bars, bars_behind):
            for price in (0, 1, 10 ** 299, None):
                self.assertIs(bar(lock, ((1,), (0,)), price, {((1,), (0,)): None}), True)

    def test_a_paper_that_does_not_keep_bars_nothing(self):
        for bar in (bars, bars_behind):
            for price in (0, 1, None):
                self.assertIs(bar(SINGLE, self.ROW, price, {**self.PAPER, ((2,), (1,)): 7}), False)

    def test_no_wishes_then_no_price(self):
        for bar in (bars, bars_behind):
            for thing in anything.plain_things() + [(self.ROW[0],), self.ROW * 3, ((0,), (True,)), list(self.ROW)]:
                with self.assertRaises(NoWishes):
                    bar(SINGLE, thing, True, None)
            for thing in [thing for thing in anything.plain_things() if thing is not None] + [-1, "0", (1,)]:
                with self.assertRaises(NoPrice):
                    bar(SINGLE, self.ROW, thing, None)
            with self.assertRaises(NoLock):
                bar(None, None, None, None)

    def test_papers_of_less_than_all_bolts_bar_nothing_of_rows(self):
        paper = {((0,), (1,)): 2}
        self.assertIs(keeps(DOUBLE, paper), True)
        self.assertIs(bars(DOUBLE, ((0, 0), (1, 0)), 2, paper), False)
        self.assertIs(bars(DOUBLE, ((0, 0), (1, 0)), 2, {**paper, ((0, 0), (1, 0)): 2}), True)


class ToldTest(unittest.TestCase):
    def check(self, lock, row):
        """Told papers keep, bar just what least tells, and are told the same again."""
        price = least(lock, row)
        for tell, keep, bar in ((told_paper, keeps, bars), (behind_paper, keeps_behind, bars_behind)):
            paper = tell(lock, row)
            self.assertLessEqual(len(paper), 40000)
            self.assertIs(keep(lock, paper), True)
            self.assertIs(bar(lock, row, price, paper), True)
            if price is not None:
                self.assertIs(bar(lock, row, price + 1, paper), False)
                self.assertIs(bar(lock, row, None, paper), False)
            self.assertEqual(tell(lock, row), paper)
            self.assertTrue(all(type(thing) is tuple for one in paper for thing in (one,) + one))

    def test_small_locks(self):
        for seed in range(120):
            rng = random.Random(seed)
            lock = random_lock(seed, many=rng.randint(1, 6), greatest=rng.choice([1, 3, 100]), both=seed % 3 > 0)
            self.check(lock, tuple(random_wish(rng, lock, none=rng.choice([0, 0.5])) for _ in range(rng.randint(2, 4))))

    def test_no_more_rows_than_are_wanted(self):
        lock = ((2, ((0, 1, 5, ((),)), (1, 0, 5, ((),)))), (3, ((0, 1, 2, ((1,),)), (1, 2, 3, ((0,), (1,))))))
        self.assertEqual(told_paper(lock, ((0, 0), (None, 2))), {
            ((0, 0), (None, 2)): 10, ((1, 1), (None, 2)): 3, ((0,), (1,)): 5, ((1,), (0,)): 5,
        })
        for tell in (told_paper, behind_paper):
            self.assertEqual(tell(lock, ((0, 0), (None, 0))), {})
            self.assertLess(len(tell(ring_lock(60), ((0,) * 60, (1,) * 60, (0,) * 60))), 1000)

    def test_never(self):
        for lock in (ring_lock(59) + ((2, ()),), ring_lock(3) + ((2, ((0, 1, 1, ()),)),)):
            zero = (0,) * len(lock)
            goal = (None,) * (len(lock) - 1) + (1,)
            for row in ((zero, goal), (zero, zero, goal), (goal, zero), (goal, zero, zero, goal)):
                self.assertIs(least(lock, row), None)
                self.check(lock, row)
                self.assertIs(bars(lock, row, None, told_paper(lock, row)), True)

    def test_wishes_all_none(self):
        for lock in anything.locks():
            free = (None,) * len(lock)
            for many in (2, 3, 4):
                self.check(lock, (free,) * many)
            self.check(lock, (free, (0,) * len(lock), free, (1,) + (None,) * (len(lock) - 1)))

    def test_great_locks(self):
        for seed in range(2):
            rng = random.Random(seed)
            lock = random_lock(seed, manys=[4] * 60, greatest=(1, 1000000)[seed % 2], both=True)
            for many in (2, 4):
                self.check(lock, tuple(random_wish(rng, lock, none=0.3) for _ in range(many)))

    def test_great_rows_of_stands(self):
        for lock in (line_lock([2, 3, 4] * 20), ring_lock(60), fork_lock(60), ladder_lock(60)):
            rng = random.Random(8)
            for many in (2, 3, 4):
                self.check(lock, tuple(random_stand(rng, lock) for _ in range(many)))

    def test_no_wishes(self):
        for thing in anything.plain_things() + [((0,),), ((0,),) * 5, ((0,), [1]), [(0,), (1,)]]:
            for tell in (told_paper, behind_paper):
                with self.assertRaises(NoWishes):
                    tell(SINGLE, thing)


if __name__ == "__main__":
    unittest.main()
