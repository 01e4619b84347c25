"""Point 41: a desk."""

import random
import unittest

from tests import anything
from tests.makers import line_lock, random_lock, random_stand, random_wish, ring_lock
from waitbolts import errors
from waitbolts.books import told_way, weighed
from waitbolts.desk import Desk
from waitbolts.keepers import Keeper
from waitbolts.least import first_steps, how_many, least
from waitbolts.locks import can_step, stands_of
from waitbolts.reach import come_to, coming
from waitbolts.texts import show_lock

# The bolt above goes between 0 and 1 while the lowest one is at 1, and from 1 on to 2 for good.
LOCK = (
    (2, ((0, 1, 3, ((),)), (1, 0, 2, ((),)))),
    (3, ((0, 1, 5, ((1,),)), (1, 0, 7, ((1,),)), (1, 2, 1, ((0,),)))),
)
TEXT = show_lock(LOCK)
# Each row with as many words as it may have, and whether it asks for a keeper.
LOCK_ROWS = [
    "show", "stands", "steps 0,0", "least 0,0 0,1", "least 0,0 0,1 0,0", "least 0,0 0,1 1,0 -,-", "many 0,0 0,1 5",
    "firsts 0,0 0,1", "coming 0,0", "comes 0,0", "way 0,0 0,1", "way 0,0 0,1 -,0", "way 0,0 -,1 0,- 0,0", "keeper 0,0 -,0",
]
KEEPER_ROWS = [
    "earn 5", "step 0 1", "go - 0,0", "go 0 0,0 0,0", "go - 0,0 0,0 0,0", "rust 0", "free 0", "undo", "again", "stand",
    "coins", "paid", "gone", "home", "rust",
]


def places(stand):
    """A stand or a wish as it is written."""
    return ",".join("-" if place is None else str(place) for place in stand)


class Case(unittest.TestCase):
    def desk(self, *rows):
        """A desk that is told a lock, and these rows, each answered ok."""
        desk = Desk()
        for row in ("lock\n" + TEXT,) + rows:
            self.assertEqual(desk.say(row), "ok")
        return desk

    def answers(self, desk, *pairs):
        """Each row is answered by the text that stands beside it."""
        for row, text in pairs:
            self.assertEqual(desk.say(row), text, row)

    def refused(self, name, desk, *rows):
        """Each row is refused by this class's name."""
        for row in rows:
            with self.assertRaises((errors.BoltError, LookupError, RuntimeError)) as caught:
                desk.say(row)
            self.assertEqual(caught.exception.__class__.__name__, name, row)
        return caught.exception


class LockTest(Case):
    def test_a_lock(self):
        self.answers(
            self.desk(), ("show", TEXT), ("stands", "6"), ("steps 1,1", "0 0 2; 1 0 7"), ("steps 0,2", "0 1 3"),
            ("least 0,0 0,2", "11"), ("least 0,0 -,1 0,0", "17"), ("least -,2 -,1", "-"), ("least -,- -,- -,-", "0"),
            ("many 0,0 0,2 5", "1"), ("many 0,2 0,0 5", "0"), ("firsts 0,0 0,2", "0 1"), ("firsts 0,0 -,0", "-"),
            ("firsts 0,2 0,0", "-"), ("coming 0,2", "6"), ("coming -,0", "4"), ("comes -,1", "6"), ("comes 0,2", "2"),
            ("way 0,0 0,2", "11 4"), ("way -,2 -,0", "-"), ("way 0,0 -,1 0,0", "17 4"), ("way 0,0 0,0", "0 0"),
        )

    def test_no_steps(self):
        desk = Desk()
        self.answers(desk, ("lock\nbolt 2\nbolt 4", "ok"), ("show", "bolt 2\nbolt 4"), ("steps 0,3", "-"), ("stands", "8"))

    def test_several_first_steps(self):
        desk = Desk()
        self.answers(desk, ("lock\nbolt 3\ngap 0 1 1\nway .\ngap 0 2 1\nway .", "ok"), ("firsts 0 -", "-"))
        self.answers(desk, ("steps 0", "0 1 1; 0 2 1"), ("comes 0", "3"), ("many 0 1 1", "1"))
        self.answers(desk, ("lock\n" + show_lock(ring_lock(3)), "ok"), ("steps 1,0,0", "0 0 1; 1 1 1"))

    def test_beside_the_functions(self):
        for seed in range(30):
            rng = random.Random(seed)
            lock = random_lock(seed, many=rng.randint(1, 4), both=seed % 2 > 0)
            desk = Desk()
            self.assertEqual(desk.say("lock\n" + show_lock(lock)), "ok")
            stand, wish = random_stand(rng, lock), random_wish(rng, lock)
            one, other = places(stand), places(wish)
            row = tuple(random_wish(rng, lock) for _ in range(rng.randint(2, 4)))
            words = " ".join(places(some) for some in row)
            price, book = least(lock, row), told_way(lock, row)
            steps, firsts = can_step(lock, stand), first_steps(lock, stand, wish)
            self.answers(
                desk, ("show", show_lock(lock)), ("stands", str(stands_of(lock))),
                (f"steps {one}", "; ".join(f"{k} {to} {cost}" for k, to, cost in steps) or "-"),
                (f"firsts {one} {other}", "; ".join(f"{k} {to}" for k, to in firsts) or "-"),
                (f"least {words}", "-" if price is None else str(price)),
                (f"way {words}", "-" if book is None else "{} {}".format(*weighed(lock, book)[2:])),
                (f"many {one} {other} 3", str(how_many(lock, stand, wish, 3))),
                (f"coming {other}", str(coming(lock, wish))), (f"comes {other}", str(come_to(lock, wish))),
            )

    def test_refused_as_the_functions_refuse(self):
        desk = self.desk()
        self.refused("NoStand", desk, "steps 0,3", "steps 0", "steps .", "steps 0,0,0", "many 2,0 9,9 0", "firsts 0 0",
                     "keeper 0 0", "keeper . .")
        self.refused("NoWish", desk, "many 0,0 0,3 0", "firsts 0,0 0", "coming 2,0", "comes .", "keeper 0,0 0,3",
                     "coming -,-,-", "keeper 0,2 0")
        self.refused("NoWishes", desk, "least 0,0 0", "least 0,0 0,0 0,0 0,3", "way . .", "way 0,0 0,0 2,0")
        self.refused("NoMost", desk, "many 0,0 0,0 0", "many 0,0 0,0 1" + "0" * 60 + "1")
        self.refused("Never", desk, "keeper 0,2 0,0")
        self.answers(desk, ("many 0,0 0,0 1" + "0" * 60, "1"))

    def test_a_great_lock(self):
        desk = Desk()
        lock = line_lock([4] * 60)
        one, other = places((0,) * 60), places((None,) * 59 + (3,))
        self.answers(desk, ("lock\n" + show_lock(lock), "ok"), ("stands", str(4 ** 60)),
                     (f"least {one} {other}", str(3 * 4 ** 59)), (f"way {one} {other}", f"{3 * 4 ** 59} {3 * 4 ** 59}"),
                     (f"comes {one}", str(4 ** 60)), (f"keeper {one} {one}", "ok"), ("earn 1" + "0" * 40, "ok"),
                     (f"go 1{'0' * 33} {other}", "ok"), ("gone", "1" + "0" * 33), ("home", "1" + "0" * 33))


class KeeperTest(Case):
    def test_a_keeper(self):
        desk = self.desk("keeper 0,0 -,0")
        self.answers(
            desk, ("stand", "0,0"), ("coins", "0"), ("paid", "0"), ("gone", "0"), ("home", "0"), ("rust", "-"),
            ("earn 30", "ok"), ("step 0 1", "ok"), ("stand", "1,0"), ("coins", "27"), ("go - -,1", "ok"), ("stand", "1,1"),
            ("paid", "8"), ("gone", "2"), ("home", "7"), ("rust 0", "ok"), ("rust", "0"), ("free 0", "ok"), ("rust", "-"),
            ("go 1 -,0 0,-", "ok"), ("coins", "15"), ("gone", "3"),
        )
        self.assertEqual(self.refused("Poor", desk, "go - 0,1 -,0 0,0").price, 19)
        self.answers(desk, ("earn 4", "ok"), ("go - 0,1 -,0 0,0", "ok"), ("stand", "0,0"), ("coins", "0"))
        self.refused("Poor", desk, "go - -,1 -,0")
        self.answers(desk, ("undo", "ok"), ("coins", "19"), ("again", "ok"), ("stand", "0,0"))

    def test_rust_of_several(self):
        desk = Desk()
        self.answers(desk, ("lock\n" + show_lock(ring_lock(4)), "ok"), ("keeper 0,0,0,0 -,-,-,-", "ok"))
        self.answers(desk, ("rust 3", "ok"), ("rust 0", "ok"), ("rust 2", "ok"), ("rust", "0; 2; 3"), ("free 2", "ok"))
        self.answers(desk, ("rust", "0; 3"), ("undo", "ok"), ("undo", "ok"), ("rust", "0; 3"), ("undo", "ok"), ("rust", "3"))

    def test_the_lock_stays_as_it_is_told(self):
        desk = self.desk("keeper 0,0 -,0", "rust 0")
        self.answers(desk, ("show", TEXT), ("steps 0,0", "0 1 3"), ("least 0,0 0,2", "11"), ("comes 0,0", "6"))

    def test_refused_as_the_keeper_refuses(self):
        desk = self.desk("keeper 0,0 -,0")
        self.refused("NothingDone", desk, "undo", "again")
        self.refused("NoPrice", desk, "earn 0", "earn 1" + "0" * 39 + "1", "earn 9" + "0" * 40)
        self.refused("NoStep", desk, "step 0 0", "step 1 1", "step 2 0", "step 0 2")
        self.refused("NoWishes", desk, "go - 0", "go 9 .", "go 0 0,0 0,3")
        self.refused("NoPlace", desk, "go 1 0,0", "go 5 0,2")
        self.refused("NoBolt", desk, "rust 2", "free 2")
        self.refused("Taken", desk, "free 1")
        self.refused("Never", desk, "go - 0,2")
        self.assertEqual(self.refused("Poor", desk, "step 0 1").price, 3)
        self.answers(desk, ("earn 1" + "0" * 40, "ok"), ("rust 1", "ok"))
        self.refused("Taken", desk, "rust 1")
        self.refused("Never", desk, "go - -,1", "go 9 -,1")

    def test_beside_a_keeper(self):
        for seed in range(20):
            rng = random.Random(seed)
            lock = random_lock(seed, many=3, both=True)
            stand = random_stand(rng, lock)
            desk = Desk()
            desk.say("lock\n" + show_lock(lock))
            self.assertEqual(desk.say(f"keeper {places(stand)} -,-,-"), "ok")
            keeper = Keeper(lock, stand, (None,) * 3)
            for _ in range(40):
                wishes = tuple(random_wish(rng, lock) for _ in range(rng.randint(1, 3)))
                count, k = rng.choice([None, 0, 1, 2]), rng.randrange(3)
                words = " ".join(["-" if count is None else str(count)] + [places(wish) for wish in wishes])
                row, ask = rng.choice([
                    ("earn 5", lambda: keeper.do(("earn", 5))), ("undo", keeper.undo), ("again", keeper.again),
                    (f"step {k} 1", lambda: keeper.do(("step", k, 1))), (f"rust {k}", lambda: keeper.do(("rust", k))),
                    (f"free {k}", lambda: keeper.do(("free", k))), (f"go {words}", lambda: keeper.do(("go", wishes, count))),
                    (f"go {words}", lambda: keeper.do(("go", wishes, count))),
                ])
                try:
                    ask()
                except (errors.BoltError, errors.NothingDone) as caught:
                    self.refused(caught.__class__.__name__, desk, row)
                else:
                    self.answers(desk, (row, "ok"))
                self.answers(
                    desk, ("stand", places(keeper.stand_now())), ("coins", str(keeper.coins_now())),
                    ("paid", str(keeper.paid_now())), ("gone", str(keeper.gone_now())), ("home", str(keeper.home_now())),
                    ("rust", "; ".join(str(k) for k in keeper.rust_now()) or "-"),
                )


class NotYetTest(Case):
    def test_no_lock_yet(self):
        self.refused("NotYet", Desk(), *LOCK_ROWS, *KEEPER_ROWS)

    def test_no_keeper_yet(self):
        desk = self.desk()
        self.refused("NotYet", desk, *KEEPER_ROWS)
        for row in LOCK_ROWS:
            desk.say(row)
        for row in KEEPER_ROWS:
            if row != "again":
                desk.say(row)

    def test_a_new_lock_has_no_keeper(self):
        desk = self.desk("keeper 0,0 -,0", "lock\nbolt 3")
        self.answers(desk, ("show", "bolt 3"))
        self.refused("NotYet", desk, *KEEPER_ROWS)
        self.refused("NoStand", desk, "keeper 0,0 -,0")

    def test_a_lock_refused_changes_nothing(self):
        desk = self.desk("keeper 0,0 -,0", "earn 7")
        self.assertEqual(self.refused("NoText", desk, "lock\nbolt 2\nbolt 9\nwrong").row, 2)
        self.answers(desk, ("show", TEXT), ("coins", "7"))
        self.refused("Never", desk, "keeper 0,2 0,0")
        self.answers(desk, ("coins", "7"), ("keeper 0,2 0,2", "ok"), ("coins", "0"), ("stand", "0,2"))

    def test_what_read_lock_refuses(self):
        for rest, row in (("", 0), ("\n", 0), ("bolt 2\n", 1), (" bolt 2", 0), ("bolt 1", 1), ("bolt 2\nway .", 1), ("show", 0)):
            self.assertEqual(self.refused("NoText", Desk(), "lock\n" + rest).row, row)

    def test_two_desks(self):
        one, other = Desk(), Desk()
        self.answers(one, ("lock\nbolt 2", "ok"))
        self.refused("NotYet", other, "show")
        self.answers(other, ("lock\nbolt 3", "ok"))
        self.answers(one, ("show", "bolt 2"))


class NoRowTest(Case):
    def test_no_text(self):
        for thing in anything.plain_things() + [b"show", ["show"], ("show",)]:
            self.refused("NoRow", Desk(), thing)
            self.refused("NoRow", self.desk("keeper 0,0 -,0"), thing)

    def test_words_too_few_and_too_many(self):
        desks = [Desk(), self.desk(), self.desk("keeper 0,0 -,0")]
        for row in LOCK_ROWS + KEEPER_ROWS:
            words = row.split(" ")
            many = " ".join(words[:1] + ["0,0"] * 4 + words[1:])
            wrong = [row + " ", " " + row, row.replace(" ", "  ", 1) + " ", row + "\n", "\n" + row, row.upper(), many]
            wrong.append("x" + row)
            if len(words) > 1 and words[0] != "rust":
                wrong += [words[0], words[0] + " ", row + " 0 0 0 0 0"]
            if words[0] not in ("least", "way", "go", "rust"):
                wrong.append(row + " 0")
            for desk in desks:
                self.refused("NoRow", desk, *wrong)

    def test_counts_of_wishes(self):
        for desk in (Desk(), self.desk("keeper 0,0 -,0")):
            self.refused("NoRow", desk, "least", "least 0,0", "least 0,0 0,0 0,0 0,0 0,0", "way 0,0", "way" + " 0,0" * 5,
                         "go", "go -", "go 1", "go - 0,0 0,0 0,0 0,0", "rust 0 0", "rust ", "lock", "lock 0", "lock ", "",
                         " ", "\n", "locks\nbolt 2", "Lock\nbolt 2", " lock\nbolt 2")

    def test_words_that_are_not_written_right(self):
        desks = [Desk(), self.desk(), self.desk("keeper 0,0 -,0")]
        for desk in desks:
            for word in ("00,0", "0,00", "0,", ",0", "", "a", "0;0", "-1,0", "+0,0", "0.0", "..", "0,.", "--,0", "0 ,0", "0,0\n"):
                self.refused("NoRow", desk, f"steps {word}", f"least {word} 0,0", f"least 0,0 0,0 {word}", f"coming {word}",
                             f"comes {word}", f"many {word} 0,0 1", f"many 0,0 {word} 1", f"firsts {word} 0,0",
                             f"firsts 0,0 {word}", f"way {word} 0,0", f"keeper {word} 0,0", f"keeper 0,0 {word}",
                             f"go - {word}", f"go 0 0,0 {word}")
            # No place of a stand is never.
            self.refused("NoRow", desk, "steps -,0", "steps -", "many 0,- 0,0 1", "firsts -,- 0,0", "keeper -,0 0,0")
            for number in ("-", "00", "01", "-1", "+1", "1.0", "a", "", "0,0", ".", "1_0"):
                self.refused("NoRow", desk, f"many 0,0 0,0 {number}", f"earn {number}", f"step {number} 0", f"step 0 {number}",
                             f"rust {number}", f"free {number}")
                if number != "-":
                    self.refused("NoRow", desk, f"go {number} 0,0")

    def test_no_row_goes_ahead_of_not_yet_and_of_what_the_functions_refuse(self):
        self.refused("NoRow", Desk(), "steps a", "earn a", "keeper 9,9 a")
        desk = self.desk("keeper 0,0 -,0")
        self.refused("NoRow", desk, "firsts 9,9 a", "many 9,9 9,9 -", "go 9 9,9 a")
        # Numbers and words that are too long are written right.
        long = "9" * 5000
        self.refused("NoPrice", desk, f"earn {long}")
        self.refused("NoMost", desk, f"many 0,0 0,0 {long}")
        self.refused("NoStep", desk, f"step 0 {long}", f"step {long} 0")
        self.refused("NoPlace", desk, f"go {long} 0,0")
        self.refused("NoBolt", desk, f"rust {long}", f"free {long}")
        self.refused("NoStand", desk, f"steps {long},0", "steps " + ",".join(["0"] * 61))
        self.refused("NotYet", Desk(), f"earn {long}", f"steps {long},0")


if __name__ == "__main__":
    unittest.main()
