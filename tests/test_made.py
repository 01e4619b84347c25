"""Points 33 and 34: locks whose stands lie in one row, and locks made for a count."""

import random
import unittest

from tests import anything, plain
from waitbolts import errors
from waitbolts.least import least
from waitbolts.locks import can_step, fault_of, spread, stands_of
from waitbolts.made import made, row_of
from waitbolts.parts import parts
from waitbolts.readings import stand_at
from waitbolts.books import told_way, weighed


class RowOfTest(unittest.TestCase):
    def test_one_bolt(self):
        self.assertEqual(row_of([2]), (((2, ((0, 1, 1, ((),)), (1, 0, 1, ((),)))),), (0,), (1,)))
        lock, one, other = row_of([4])
        self.assertEqual(sorted([one, other]), [(0,), (3,)])
        self.assertEqual([len(can_step(lock, (place,))) for place in range(4)], [1, 2, 2, 1])

    def check_row(self, lock, one, other):
        """All stands of a lock lie in one row between two of them, each with steps to those next to it alone."""
        here, last, seen = one, None, [one]
        while True:
            steps = [plain.behind(here, k, to) for k, to, price in plain.steps(lock, here) if price == 1]
            self.assertEqual(len(steps), len(plain.steps(lock, here)))
            self.assertEqual(len(steps), 1 if here in (one, other) else 2)
            ahead = [stand for stand in steps if stand != last]
            if here == other:
                break
            here, last = ahead[0], here
            seen.append(here)
        self.assertEqual(len(seen), len(set(seen)))
        self.assertEqual(sorted(seen), plain.stands(lock))

    def test_all_short_lists(self):
        lists = [[]]
        for _ in range(4):
            lists = [some + [many] for some in lists for many in (2, 3, 4)]
            for places in lists:
                lock, one, other = row_of(places)
                self.assertIs(fault_of(lock), None)
                self.assertEqual([bolt[0] for bolt in lock], places)
                self.check_row(lock, one, other)

    def test_no_gap_stands_idle(self):
        for places in ([4, 2, 3], [2] * 5):
            for _, gaps in row_of(places)[0]:
                self.assertTrue(all(price == 1 and ways for _, _, price, ways in gaps))

    def test_lists_of_sixty(self):
        for places in ([2] * 60, [3] * 60, [4] * 60, [random.Random(n).randint(2, 4) for n in range(60)]):
            lock, one, other = row_of(places)
            self.assertIs(fault_of(lock), None)
            count = stands_of(lock)
            self.assertEqual(parts(lock), [(count, 1)])
            self.assertEqual(least(lock, (one, other)), count - 1)
            self.assertEqual(least(lock, (other, one)), count - 1)
            # A row through all stands has no room for another step.
            book = told_way(lock, (one, other))
            self.assertEqual(weighed(lock, book), (one, other, count - 1, count - 1))
            for t in (0, 1, 10 ** 15, count // 2, count - 1):
                stand = stand_at(lock, book, t)
                self.assertEqual(len(can_step(lock, stand)), 1 if t in (0, count - 1) else 2)
                self.assertEqual(len(spread(lock, stand, 900)), 1 + min(t, 900) + min(count - 1 - t, 900))

    def test_what_is_handed_in_stays(self):
        places = [2, 3, 4]
        told = row_of(places)
        self.assertEqual(places, [2, 3, 4])
        places[0] = 4
        self.assertEqual(told, row_of([2, 3, 4]))
        self.assertEqual([type(thing) for thing in (told,) + told], [tuple] * 4)

    def test_no_places(self):
        things = [[], [2] * 61, (2, 3), [1], [5], [2, 1], [5, 2], [True], [2, True], [None], ["2"], [[2]], [(2,)],
                  {0: 2}, "2", 2, [2, -2], [10 ** 299], [{}], [2] * 50000]
        for thing in things + anything.plain_things():
            with self.assertRaises(errors.NoPlaces):
                row_of(thing)
        self.assertEqual(len(row_of([2] * 60)[0]), 60)


class MadeTest(unittest.TestCase):
    def check(self, count):
        """What is made for a count, of as few bolts as can be: with one less no way is so long."""
        lock, one, other = made(count)
        self.assertIs(fault_of(lock), None)
        self.assertTrue(all(bolt[0] == 2 for bolt in lock))
        self.assertTrue(all(gap[2] == 1 for bolt in lock for gap in bolt[1]))
        self.assertEqual(least(lock, (one, other)), count)
        self.assertTrue(2 ** (len(lock) - 1) - 1 < count <= 2 ** len(lock) - 1)
        return lock, one, other

    def test_small_counts_beside_walks(self):
        for count in range(1, 300):
            lock, one, other = self.check(count)
            if count < 70:
                self.assertEqual(plain.prices(lock, [one])[other], count)

    def test_powers_of_two_and_beside_them(self):
        for n in range(1, 60):
            for count in (2 ** n - 1, 2 ** n, 2 ** n + 1):
                if count <= 10 ** 18:
                    self.check(count)

    def test_great_counts(self):
        rng = random.Random(1)
        for count in [10 ** 18, 10 ** 18 - 1, 10 ** 17] + [rng.randint(1, 10 ** 18) for _ in range(30)]:
            self.check(count)
        self.assertEqual(len(made(10 ** 18)[0]), 60)
        self.assertEqual([len(made(count)[0]) for count in (1, 2, 3, 4)], [1, 2, 2, 3])

    def test_no_count(self):
        for thing in [0, -1, 10 ** 18 + 1, 10 ** 299, "5", [5], (5,), {5: 5}] + anything.plain_things():
            with self.assertRaises(errors.NoCount):
                made(thing)

    def test_the_same_again(self):
        self.assertEqual(made(12345), made(12345))
        self.assertEqual([type(thing) for thing in (made(9),) + made(9)], [tuple] * 4)


if __name__ == "__main__":
    unittest.main()
