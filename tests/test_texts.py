"""Points 39 and 40: texts, written and read."""

import copy
import random
import unittest

from tests import anything
from tests.bookmakers import loops, random_book
from tests.makers import line_lock, random_lock, random_wish, ring_lock
from waitbolts import errors
from waitbolts.behind import behind_paper
from waitbolts.books import told_way, weighed
from waitbolts.locks import fault_of, is_lock
from waitbolts.papers import bars, told_paper
from waitbolts.least import least
from waitbolts.texts import read_book, read_lock, read_paper, show_book, show_lock, show_paper

LOCK = (2, ((0, 1, 5, ((),)), (1, 0, 1000000, ((),)))), (3, ((0, 2, 1, ()), (1, 2, 3, ((0,), (1,))))), (4, ())
LOCK_TEXT = "bolt 2\ngap 0 1 5\nway .\ngap 1 0 1000000\nway .\nbolt 3\ngap 0 2 1\ngap 1 2 3\nway 0\nway 1\nbolt 4"
BOOK = ((0,), (0,), ()), ((0, 10), (1, 2), (("part", 0), ("step", 7, 0))), ((5,), (6,), (("step", 0, 12), ("part", 99)))
BOOK_TEXT = "part 0 0\npart 0,10 1,2\nuse 0\nstep 7 0\npart 5 6\nstep 0 12\nuse 99"
PAPER = {((0, None), (None, 11)): 10, ((None,), (3,)): None, ((0, 1, 2), (0, 1, 2), (0, 1, 3), (None,) * 3): 2}
PAPER_TEXT = "bar - - 3\nbar 10 0,- -,11\nbar 2 0,1,2 0,1,2 0,1,3 -,-,-"
READERS = [(read_lock, LOCK_TEXT, LOCK), (read_book, BOOK_TEXT, BOOK), (read_paper, PAPER_TEXT, PAPER)]
NO_TEXTS = [
    None, True, 0, 5, b"bolt 2", ["bolt 2"], ("bolt 2",), {"bolt 2": 1}, [], (), {}, LOCK, BOOK, PAPER,
]


class Case(unittest.TestCase):
    def row_of(self, read, text):
        """The field row of what a reader refuses."""
        with self.assertRaises(errors.NoText) as caught:
            read(text)
        return caught.exception.row

    def wrong(self, read, *texts):
        """Each text is refused at the row that stands beside it."""
        for text, row in texts:
            self.assertEqual(self.row_of(read, text), row, text)


class ShowTest(Case):
    def test_each_as_it_is_written(self):
        self.assertEqual(show_lock(LOCK), LOCK_TEXT)
        self.assertEqual(show_book(BOOK), BOOK_TEXT)
        self.assertEqual(show_paper(PAPER), PAPER_TEXT)
        self.assertEqual(show_lock(((2, ()),)), "bolt 2")
        self.assertEqual(show_book((((7,), (7,), ()),)), "part 7 7")
        self.assertEqual(show_paper({}), "")

    def test_rows_rise_as_texts(self):
        paper = {((n,), (n + 1,)): n for n in (1, 2, 10, 11, 100)}
        self.assertEqual(show_paper(paper).split("\n"), [
            "bar 1 1 2", "bar 10 10 11", "bar 100 100 101", "bar 11 11 12", "bar 2 2 3",
        ])
        some = {((0,), (1,), (1,)): 3, ((0,), (1,)): 3, ((0, 0), (1, 1)): 3, ((None,), (None,)): None}
        self.assertEqual(show_paper(some), "bar - - -\nbar 3 0 1\nbar 3 0 1 1\nbar 3 0,0 1,1")
        for paper in (some, dict(reversed(list(some.items())))):
            self.assertEqual(show_paper(paper), "bar - - -\nbar 3 0 1\nbar 3 0 1 1\nbar 3 0,0 1,1")

    def test_great_numbers(self):
        most = 10 ** 300 - 1
        part = ((most,) * 60, (0,) * 60, (("step", most, 0), ("part", most)) * 30)
        self.assertEqual(show_book((part,)).split("\n")[1], "step " + "9" * 300 + " 0")
        self.assertEqual(read_book(show_book((part,))), (part,))
        paper = {((most, None), (0, most)): most}
        self.assertEqual(read_paper(show_paper(paper)), paper)

    def test_no_lock(self):
        for thing in anything.near_locks() + anything.plain_things():
            with self.assertRaises(errors.NoLock) as caught:
                show_lock(thing)
            self.assertEqual(caught.exception.fault, fault_of(thing))

    def part_of(self, thing):
        """The field part of what show_book refuses."""
        with self.assertRaises(errors.NoBook) as caught:
            show_book(thing)
        return caught.exception.part

    def test_no_book(self):
        for thing in [one for one in anything.plain_things() if one != anything.book(3)]:
            self.assertEqual(self.part_of(thing), 0)
        good = ((0,), (1,), (("step", 0, 1),))
        entry = ("step", 0, 1)
        wrong = [
            None, (), good[:2], good + ((),), list(good), ([0], (1,), ()), ((0,), [1], ()), ((0,), (1,), []),
            ((), (), ()), ((0,), (), ()), ((), (0,), ()), ((0,), (0, 0), ()), ((0,) * 61, (0,) * 61, ()),
            ((-1,), (0,), ()), ((0,), (-1,), ()), ((True,), (0,), ()), ((0,), (False,), ()), ((None,), (0,), ()),
            (("0",), (0,), ()), ((0,), (0,), (entry,) * 61), ((0,), (0,), (list(entry),)), ((0,), (0,), (None,)),
            ((0,), (0,), (("step", 0),)), ((0,), (0,), (("step", 0, 1, 2),)), ((0,), (0,), (("part",),)),
            ((0,), (0,), (("part", 0, 1),)), ((0,), (0,), (("use", 0),)), ((0,), (0,), (("step", -1, 0),)),
            ((0,), (0,), (("step", 0, -1),)), ((0,), (0,), (("step", True, 0),)), ((0,), (0,), (("step", 0, None),)),
            ((0,), (0,), (("part", -1),)), ((0,), (0,), (("part", True),)), ((0,), (0,), (("part", "0"),)),
            ((0,), (0,), ((["part"], 0),)), ((0,), (0,), entry), ((([0],)), (0,), ()), (({},), (0,), ()),
        ]
        for part in wrong:
            self.assertEqual(self.part_of((part,)), 0, part)
            self.assertEqual(self.part_of((good, good, part, part)), 2)
        for right in (((0,) * 60, (9,) * 60, ()), ((0,), (0,), (entry,) * 60), ((5,), (9, ), (("part", 10 ** 299),))):
            self.assertEqual(read_book(show_book((right,))), (right,))

    def test_books_of_as_many_parts_as_may_be(self):
        book = anything.book(30000)
        text = show_book(book)
        self.assertEqual(text.count("\n"), 59999)
        self.assertEqual(read_book(text), book)
        self.assertEqual(self.part_of(anything.book(30001)), 0)
        self.assertEqual(self.row_of(read_book, text + "\npart 0 0"), 60001)

    def test_no_paper(self):
        row = ((0,), (1,))
        for thing in [one for one in anything.plain_things() if one != {}] + [anything.paper(40001)]:
            with self.assertRaises(errors.NoPaper):
                show_paper(thing)
        for key, number in [
            (row, 0), (row, -1), (row, True), (row, "1"), (row, (1,)), (row[:1], 1), (row * 2 + row[:1], 1), (((), ()), 1),
            ((5, (1,)), 1), (((), (1,)), 1),
            (((0,), (1, 0)), 1), (((0, 1), (1,)), 1), (((0,) * 61, (1,) * 61), 1), (((-1,), (1,)), 1), (((0,), (True,)), 1),
            (((0,), ("1",)), 1), ((0, 1), 1), (None, 1), (5, 1), ("ab", 1), (((0,), None), 1), (((0,), ((1,),)), 1),
        ]:
            for paper in ({key: number}, {row: 5, key: number} if key != row else {key: number}):
                with self.assertRaises(errors.NoPaper):
                    show_paper(paper)
        for key in (row * 2, (row[0],) * 3, ((None,) * 60, (7,) * 60)):
            self.assertEqual(read_paper(show_paper({key: 1})), {key: 1})

    def test_papers_of_as_many_rows_as_may_be(self):
        paper = anything.paper(40000)
        text = show_paper(paper)
        self.assertEqual(read_paper(text), paper)
        rows = sorted(text.split("\n") + ["bar 7 0 0"])
        self.assertEqual(self.row_of(read_paper, "\n".join(rows)), 40001)

    def test_what_is_handed_in_stays(self):
        kept = copy.deepcopy(PAPER)
        show_paper(PAPER)
        self.assertEqual(list(PAPER.items()), list(kept.items()))
        told = read_paper(PAPER_TEXT)
        told.clear()
        self.assertEqual(read_paper(PAPER_TEXT), PAPER)


class ReadTest(Case):
    def test_each_as_the_same(self):
        for read, text, thing in READERS:
            told = read(text)
            self.assertEqual(told, thing)
            self.assertIs(type(told), type(thing))
        self.assertEqual(read_paper(""), {})

    def test_locks_of_all_kinds(self):
        for lock in anything.locks() + [random_lock(seed, many=5) for seed in range(30)] + [ring_lock(60)]:
            self.assertEqual(read_lock(show_lock(lock)), lock)

    def test_books_of_all_kinds(self):
        self.assertEqual(read_book(show_book(loops(200))), loops(200))
        for seed in range(30):
            rng = random.Random(seed)
            lock = random_lock(seed, many=3)
            book = random_book(rng, lock, 6)
            self.assertEqual(weighed(lock, read_book(show_book(book))), weighed(lock, book))
        lock = line_lock([4] * 60)
        book = told_way(lock, ((0,) * 60, (3,) * 60))
        self.assertEqual(read_book(show_book(book)), book)

    def test_papers_of_all_kinds(self):
        for seed in range(30):
            rng = random.Random(seed)
            lock = random_lock(seed, many=4)
            row = tuple(random_wish(rng, lock) for _ in range(rng.randint(2, 4)))
            for paper in (told_paper(lock, row), behind_paper(lock, row)):
                self.assertEqual(read_paper(show_paper(paper)), paper)
            self.assertTrue(bars(lock, row, least(lock, row), read_paper(show_paper(told_paper(lock, row)))))

    def test_no_text_at_all(self):
        for read, _, _ in READERS:
            self.wrong(read, *[(thing, 0) for thing in NO_TEXTS + anything.plain_things() if thing != ""])

    def test_no_sign_at_all(self):
        self.wrong(read_lock, ("", 0))
        self.wrong(read_book, ("", 0))
        self.assertEqual(read_paper(""), {})

    def test_line_ends_too_many(self):
        for read, text, _ in READERS:
            rows = text.split("\n")
            self.wrong(read, ("\n", 0), ("\n" + text, 0), (text + "\n", len(rows)), (text + "\n\n", len(rows)))
            self.wrong(read, ("\n".join(rows[:2] + [""] + rows[2:]), 2))

    def test_blanks(self):
        for read, text, _ in READERS:
            rows = text.split("\n")
            for n, row in enumerate(rows):
                for wrong in (row + " ", " " + row, row.replace(" ", "  ", 1), row[::-1].replace(" ", "  ", 1)[::-1],
                              row.replace(" ", ""), row.replace(" ", "\n", 1)):
                    self.wrong(read, ("\n".join(rows[:n] + [wrong] + rows[n + 1:]), n))

    def test_words_too_few_and_too_many(self):
        for read, text, _ in READERS:
            rows = text.split("\n")
            for n, row in enumerate(rows):
                if row.startswith("bar"):
                    wrong = [" ".join(row.split(" ")[:3]), row + " 0" * (7 - len(row.split(" ")))]
                else:
                    wrong = [row.rsplit(" ", 1)[0], row + " 0", row.split(" ")[0]]
                for one in wrong:
                    self.wrong(read, ("\n".join(rows[:n] + [one] + rows[n + 1:]), n))

    def test_first_words(self):
        for read, text, _ in READERS:
            rows = text.split("\n")
            for one in ("Bolt 2", "bolts 2", "", "lock", "BAR 1 0 0", "part", "0 0", "-", "."):
                for n in range(len(rows) + 1):
                    self.wrong(read, ("\n".join(rows[:n] + [one] + rows[n:]), n))
        # Rows of the other texts are none here.
        for read, text, _ in READERS:
            rows = text.split("\n")
            for other, another, _ in READERS:
                if other is not read:
                    self.wrong(read, (another, 0), (text + "\n" + another, len(rows)))

    def test_how_numbers_are_written(self):
        for number in ("00", "01", "-1", "+1", "1.", "1.0", "a", "-", "1a", "", "0x1", "1_0", ",", "0,0", ".", "--", "1e3"):
            self.wrong(read_lock, (f"bolt {number}", 0), (f"bolt 2\ngap {number} 1 1", 1), (f"bolt 2\ngap 0 {number} 1", 1),
                       (f"bolt 2\ngap 0 1 {number}", 1))
            self.wrong(read_book, (f"part 0 0\nstep {number} 0", 1), (f"part 0 0\nstep 0 {number}", 1),
                       (f"part 0 0\nuse {number}", 1))
            if number != "-":
                self.wrong(read_paper, (f"bar {number} 0 0", 0))

    def test_how_words_are_written(self):
        for word in ("", ",", "0,", ",0", "0,,0", "..", ".,0", "0,.", "00", "0,01", "-1", "0;0", "a", "0,a", "(0,)", "- ", "0."):
            self.wrong(read_lock, (f"bolt 2\ngap 0 1 1\nway {word}", 2))
            self.wrong(read_book, (f"part {word} 0", 0), (f"part 0 {word}", 0))
            self.wrong(read_paper, (f"bar 1 {word} 0", 0), (f"bar 1 0 {word}", 0), (f"bar 1 0 0 0 {word}", 0))
        # Never, and places that may be any, stand in bars alone.
        for word in ("-", "0,-", "-,-"):
            self.wrong(read_lock, (f"bolt 2\ngap 0 1 1\nway {word}", 2))
            self.wrong(read_book, (f"part {word} {word}", 0))
        self.assertEqual(read_paper("bar - -,0 -,-"), {((None, 0), (None, None)): None})

    def test_figures_of_three_hundred_signs_and_one_more(self):
        good, bad = "9" * 300, "1" + "0" * 300
        self.assertEqual(read_book(f"part {good} 0\nstep {good} {good}\nuse {good}")[0][2][1], ("part", 10 ** 300 - 1))
        self.assertEqual(read_paper(f"bar {good} {good} 0"), {((10 ** 300 - 1,), (0,)): 10 ** 300 - 1})
        self.wrong(read_lock, (f"bolt {good}", 1), (f"bolt {bad}", 0), (f"bolt 2\ngap 0 1 {good}", 2),
                   (f"bolt 2\ngap 0 1 {bad}", 1), (f"bolt 2\ngap 0 1 1\nway {bad}", 2))
        for bad in (bad, "7" * 301, "1" * 5000):
            self.wrong(read_book, (f"part {bad} 0", 0), (f"part 0 0\nstep {bad} 0", 1), (f"part 0 0\nstep 0 {bad}", 1),
                       (f"part 0 0\nuse {bad}", 1), (f"part 0,{bad} 0,0", 0))
            self.wrong(read_paper, (f"bar {bad} 0 0", 0), (f"bar 1 0 {bad}", 0))

    def test_words_of_sixty_places_and_one_more(self):
        good, bad = ",".join(["0"] * 60), ",".join(["0"] * 61)
        self.assertEqual(read_book(f"part {good} {good}"), (((0,) * 60, (0,) * 60, ()),))
        self.assertEqual(read_paper(f"bar 1 {good} {good}"), {((0,) * 60,) * 2: 1})
        self.wrong(read_book, (f"part {bad} {bad}", 0), (f"part {good} {bad}", 0), (f"part 0 0\npart {bad} 0", 1))
        self.wrong(read_paper, (f"bar 1 {bad} {bad}", 0), (f"bar 1 {good} {good} {bad}", 0))
        self.wrong(read_lock, (f"bolt 2\ngap 0 1 1\nway {good}", 3), (f"bolt 2\ngap 0 1 1\nway {bad}", 2))

    def test_rows_that_may_not_come_there(self):
        self.wrong(read_lock, ("gap 0 1 1", 0), ("way .", 0), ("bolt 2\nway .", 1), ("bolt 2\ngap 0 1 1\nbolt 2\nway 0", 3),
                   ("gap 0 1 1\nbolt 2", 0), ("bolt 2\nbolt 2\nway .\nx", 2))
        self.wrong(read_book, ("step 0 1", 0), ("use 0", 0), ("use 0\npart 0 0", 0))
        # The first row that is none or may not come there.
        self.wrong(read_lock, ("bolt 2\nway .\nbolt", 1), ("bolt 2\nbolt\nway .", 1))

    def test_what_makes_none(self):
        self.wrong(read_lock, ("bolt 1", 1), ("bolt 5", 1), ("bolt 0\nbolt 2", 2), ("bolt 2\ngap 0 0 1", 2),
                   ("bolt 2\ngap 0 2 1", 2), ("bolt 2\ngap 0 1 0", 2), ("bolt 2\ngap 0 1 1000001\nbolt 2", 3),
                   ("bolt 2\ngap 1 0 1\ngap 0 1 1", 3), ("bolt 2\ngap 0 1 1\ngap 0 1 2", 3),
                   ("bolt 2\ngap 0 1 1\nway 0", 3), ("bolt 2\nbolt 2\ngap 0 1 1\nway .", 4),
                   ("bolt 2\ngap 0 1 1\nway .\nway .", 4), ("bolt 2\nbolt 2\ngap 0 1 1\nway 1\nway 0", 5),
                   ("\n".join(["bolt 2"] * 61), 61))
        self.assertTrue(is_lock(read_lock("\n".join(["bolt 2"] * 60))))
        self.wrong(read_book, ("part . .", 1), ("part 0 .", 1), ("part 0 0\npart . 0", 2), ("part 0 0,0", 1),
                   ("part 0 0" + "\nuse 0" * 61, 62))
        self.assertEqual(read_book("part 0 0" + "\nuse 0" * 60), (((0,), (0,), (("part", 0),) * 60),))
        self.wrong(read_paper, ("bar 0 0 0", 1), ("bar 1 . .", 1), ("bar 1 0 0,0", 1), ("bar 1 0,0 0", 1), ("bar 1 . 0", 1))

    def test_a_paper_out_of_order(self):
        rows = PAPER_TEXT.split("\n")
        self.wrong(read_paper, ("\n".join(rows[::-1]), 3), ("\n".join([rows[1], rows[0], rows[2]]), 3))
        self.wrong(read_paper, ("bar 2 2 2\nbar 10 3 3", 2))
        self.assertEqual(read_paper("bar 10 3 3\nbar 2 2 2"), {((3,), (3,)): 10, ((2,), (2,)): 2})

    def test_a_tuple_twice(self):
        self.wrong(read_paper, ("bar 1 0 0\nbar 1 0 0", 2), ("bar 1 0 0\nbar 2 0 0", 2), ("bar - 0 0\nbar 1 0 0\nbar 2 1 1", 3))
        self.assertEqual(len(read_paper("bar 1 0 0\nbar 1 0 0 0")), 2)


if __name__ == "__main__":
    unittest.main()
