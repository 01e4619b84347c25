"""Points 35 to 38: keepers."""

import copy
import random
import unittest

from tests import anything, plain
from tests.keeping import COUNTS, Plain, told, wanted
from tests.bookmakers import gone, met
from tests.makers import line_lock, line_place, line_stand, random_lock, random_stand, random_wish, ring_lock
from waitbolts import errors
from waitbolts.books import told_way, weighed
from waitbolts.changes import priced, rusted
from waitbolts.keepers import Keeper
from waitbolts.least import least
from waitbolts.locks import fault_of
from waitbolts.readings import price_at, stand_at

# The bolt above goes between 0 and 1 while the lowest one is at 1, and from 1 on to 2 for good.
LOCK = (
    (2, ((0, 1, 3, ((),)), (1, 0, 2, ((),)))),
    (3, ((0, 1, 5, ((1,),)), (1, 0, 7, ((1,),)), (1, 2, 1, ((0,),)))),
)
NUMBERS = [None, True, False, -1, "0", (), (0,), [0], {}, 10 ** 299, [[]], ((),)]


class Case(unittest.TestCase):
    def refused(self, name, ask, *given):
        """Asking is refused with an error of this class's name, and nothing that is given is changed."""
        kept = copy.deepcopy(given)
        with self.assertRaises((errors.BoltError, LookupError)) as caught:
            ask(*given)
        self.assertEqual(caught.exception.__class__.__name__, name, (ask, given))
        self.assertEqual(repr(kept), repr(given))
        return caught.exception

    def stays(self, name, keeper, *deeds):
        """Each deed is refused by this class's name, alone and in a run, and leaves the keeper as it was."""
        state = told(keeper)
        for deed in deeds:
            self.refused(name, keeper.do, deed)
            self.refused(name, keeper.run, [deed])
            self.refused(name, keeper.run, [("earn", 1), deed, None])
            self.assertEqual(told(keeper), state)

    def keeper(self, coins=100, stand=(0, 0), home=(None, 0)):
        keeper = Keeper(LOCK, stand, home)
        if coins:
            keeper.do(("earn", coins))
        return keeper


class MadeTest(Case):
    def test_what_it_tells_at_first(self):
        keeper = Keeper(LOCK, (1, 1), (0, 0))
        self.assertEqual(told(keeper), {
            "lock": LOCK, "free": LOCK, "rust": [], "stand": (1, 1), "coins": 0, "paid": 0, "gone": 0, "deeds": [],
            "home": 9,
        })
        self.assertEqual(self.keeper(0, (0, 1), (None, None)).home_now(), 0)

    def test_refusals_in_their_order(self):
        for thing in anything.near_locks() + anything.plain_things():
            self.assertEqual(self.refused("NoLock", Keeper, thing, None, None).fault, fault_of(thing))
        for thing in anything.near_stands(LOCK, (0, 0)) + anything.plain_things():
            self.refused("NoStand", Keeper, LOCK, thing, None)
        for thing in anything.near_wishes(LOCK, (None, 0)) + anything.plain_things():
            self.refused("NoWish", Keeper, LOCK, (0, 2), thing)
        self.refused("Never", Keeper, LOCK, (0, 2), (None, 0))
        self.refused("Never", Keeper, ((2, ()),), (0,), (1,))

    def test_a_great_lock(self):
        manys = [4] * 60
        keeper = Keeper(line_lock(manys), line_stand(manys, 10 ** 35), line_stand(manys, 5))
        self.assertEqual(keeper.home_now(), 10 ** 35 - 5)


class EarnTest(Case):
    def test_coins(self):
        keeper = self.keeper(0)
        for coins in (1, 10 ** 40, 10 ** 40, 7):
            keeper.do(("earn", coins))
        self.assertEqual(keeper.coins_now(), 2 * 10 ** 40 + 8)
        self.assertEqual([keeper.paid_now(), keeper.gone_now(), keeper.stand_now()], [0, 0, (0, 0)])

    def test_no_price(self):
        self.stays("NoPrice", self.keeper(), *[("earn", coins) for coins in NUMBERS + [0, 10 ** 40 + 1]])
        keeper = self.keeper(0)
        keeper.do(("earn", 10 ** 40))
        self.assertEqual(keeper.coins_now(), 10 ** 40)


class StepTest(Case):
    def test_steps_are_paid(self):
        keeper = self.keeper(15)
        keeper.do(("step", 0, 1))
        self.assertEqual((keeper.stand_now(), keeper.coins_now(), keeper.paid_now()), ((1, 0), 12, 3))
        keeper.do(("step", 1, 1))
        self.assertEqual((keeper.stand_now(), keeper.coins_now(), keeper.home_now()), ((1, 1), 7, 7))
        # Just enough.
        keeper.do(("step", 1, 0))
        self.assertEqual((keeper.stand_now(), keeper.coins_now(), keeper.paid_now()), ((1, 0), 0, 15))
        self.assertEqual(keeper.gone_now(), 3)

    def test_one_coin_too_few(self):
        keeper = self.keeper(2)
        self.assertEqual(self.refused("Poor", keeper.do, ("step", 0, 1)).price, 3)
        self.stays("NoStep", keeper, ("step", 0, 0))
        keeper.do(("earn", 1))
        keeper.do(("step", 0, 1))
        self.assertEqual(keeper.coins_now(), 0)

    def test_no_step(self):
        things = [(k, to) for k in NUMBERS for to in NUMBERS + [1]] + [(0, to) for to in NUMBERS + [2]]
        things += [(2, 0), (1, 1), (0, 0), (0, False), (False, 1), (0, True)]
        keeper = self.keeper()
        self.stays("NoStep", keeper, *[("step",) + thing for thing in things])
        self.assertEqual(self.refused("NoStep", keeper.run, [("step", 0, 1), ("step", 0, 1)]).nth, 0)

    def test_never_goes_ahead_of_poor(self):
        keeper = self.keeper(8)
        keeper.run([("step", 0, 1), ("step", 1, 1)])
        keeper.run([("earn", 2), ("step", 0, 0)])
        self.assertEqual(keeper.coins_now(), 0)
        self.stays("Never", keeper, ("step", 1, 2))
        self.assertEqual(self.refused("Poor", keeper.do, ("step", 0, 1)).price, 3)

    def test_a_rusted_bolt_does_none(self):
        keeper = self.keeper()
        keeper.do(("rust", 0))
        self.stays("NoStep", keeper, ("step", 0, 1))
        keeper.do(("free", 0))
        keeper.do(("step", 0, 1))


class GoTest(Case):
    def test_all_and_so_many_steps(self):
        for count, stand, price in ((0, (0, 0), 0), (1, (1, 0), 3), (2, (1, 1), 8), (3, (1, 0), 15), (None, (1, 0), 15)):
            keeper = self.keeper()
            keeper.do(("go", ((None, 1), (None, 0)), count))
            self.assertEqual((keeper.stand_now(), keeper.paid_now()), (stand, price))
            self.assertEqual(keeper.gone_now(), 3 if count is None else count)
            self.assertEqual(keeper.coins_now(), 100 - price)

    def test_no_place(self):
        counts = NUMBERS[1:] + [4, -1]
        keeper = self.keeper()
        self.stays("NoPlace", keeper, *[("go", ((None, 1), (None, 0)), count) for count in counts])
        self.stays("NoPlace", keeper, ("go", ((0, 0),), 1), ("go", ((None, None),) * 3, 1))
        keeper.do(("go", ((0, 0),), 0))
        keeper.do(("go", ((0, 0),), None))
        self.assertEqual((keeper.gone_now(), keeper.paid_now()), (0, 0))

    def test_no_wishes(self):
        wish = (None, 0)
        things = [(), (wish,) * 4, [wish], wish, (wish, None), ((0, 0, 0),), ((0,),), ((2, 0),), ((True, 0),), ([0, 0],)]
        keeper = self.keeper()
        for thing in things + anything.plain_things() + [(near,) for near in anything.near_wishes(LOCK, wish)]:
            self.refused("NoWishes", keeper.do, ("go", thing, "x"))
            self.refused("NoWishes", keeper.way_to, thing)

    def test_never_ahead_of_no_place(self):
        keeper = self.keeper()
        keeper.do(("rust", 1))
        self.stays("Never", keeper, ("go", ((None, 1),), None), ("go", ((None, 1),), "x"))

    def test_never_behind_the_steps_ahead_of_poor(self):
        keeper = self.keeper(1)
        # The way to where none leads home is gone, but not its last step.
        self.stays("Never", keeper, ("go", ((None, 2),), None), ("go", ((None, 2),), 4))
        self.assertEqual(self.refused("Poor", keeper.do, ("go", ((None, 2),), 3)).price, 10)
        self.stays("NoPlace", keeper, ("go", ((None, 2),), 5))
        keeper.do(("earn", 9))
        keeper.do(("go", ((None, 2),), 3))
        self.assertEqual((keeper.stand_now(), keeper.coins_now(), keeper.gone_now()), ((0, 1), 0, 3))

    def test_way_to(self):
        keeper = self.keeper()
        for wishes in (((None, 1),), ((None, 1), (0, None)), ((1, None), (0, None), (None, 1))):
            book = keeper.way_to(wishes)
            self.assertEqual(weighed(LOCK, book)[2], plain.least(LOCK, ((0, 0),) + wishes))
            self.assertEqual(book, keeper.way_to(wishes))
            _, stands, _ = gone(LOCK, book)
            self.assertEqual(stands[0], (0, 0))
            self.assertTrue(met(stands, ((0, 0),) + wishes))
        self.assertEqual(weighed(LOCK, keeper.way_to(((0, 0),))), ((0, 0), (0, 0), 0, 0))
        keeper.do(("rust", 0))
        self.assertIs(keeper.way_to(((None, 1),)), None)

    def test_the_way_that_is_told_is_gone(self):
        for seed in range(60):
            rng = random.Random(seed)
            lock = random_lock(seed, many=3, both=True)
            keeper = Keeper(lock, random_stand(rng, lock), (None,) * 3)
            keeper.do(("earn", 1000))
            wishes = tuple(random_wish(rng, lock) for _ in range(rng.randint(1, 3)))
            book = keeper.way_to(wishes)
            if book is None:
                self.stays("Never", keeper, ("go", wishes, None))
                continue
            steps, stands, prices = gone(lock, book)
            for t in range(len(stands)):
                twin = keeper.copied()
                twin.do(("go", wishes, t))
                self.assertEqual((twin.stand_now(), twin.paid_now(), twin.gone_now()), (stands[t], prices[t], t))
                self.assertEqual(keeper.way_to(wishes), book)


class RustTest(Case):
    def test_rusted_and_freed(self):
        keeper = Keeper(ring_lock(4), (0,) * 4, (None,) * 4)
        for k in (2, 0, 3):
            keeper.do(("rust", k))
        self.assertEqual(keeper.rust_now(), [0, 2, 3])
        ring = ring_lock(4)
        self.assertEqual(keeper.lock_now(), ring)
        self.assertEqual(keeper.free_lock(), ((2, ()), ring[1], (2, ()), (2, ())))
        keeper.do(("free", 2))
        self.assertEqual(keeper.rust_now(), [0, 3])
        self.assertEqual(keeper.free_lock(), ((2, ()), ring[1], ring[2], (2, ())))
        self.stays("Taken", keeper, ("rust", 0), ("rust", 3), ("free", 1), ("free", 2))
        self.stays("NoBolt", keeper, *[(word, k) for word in ("rust", "free") for k in NUMBERS + [4]])

    def test_never(self):
        keeper = self.keeper()
        keeper.do(("step", 0, 1))
        keeper.do(("step", 1, 1))
        self.stays("Never", keeper, ("rust", 1))
        self.stays("Taken", keeper, ("free", 1))
        keeper.do(("rust", 0))
        self.assertEqual(keeper.home_now(), 7)
        self.stays("Never", keeper, ("rust", 1))

    def test_changes_of_a_rusted_bolt_wait(self):
        keeper = self.keeper()
        keeper.do(("rust", 1))
        keeper.do(("priced", 1, 0, 1, 50))
        self.assertEqual(keeper.lock_now(), priced(LOCK, 1, 0, 1, 50))
        self.assertEqual(keeper.free_lock(), (LOCK[0], (3, ())))
        keeper.do(("free", 1))
        self.assertEqual(keeper.free_lock(), keeper.lock_now())
        keeper.run([("step", 0, 1), ("step", 1, 1)])
        self.assertEqual(keeper.paid_now(), 53)

    def test_as_rusted_tells(self):
        for seed in range(40):
            rng = random.Random(seed)
            lock = random_lock(seed, many=4, both=True)
            keeper = Keeper(lock, random_stand(rng, lock), random_wish(rng, lock, none=0.7))
            some = []
            for k in rng.sample(range(4), 3):
                try:
                    keeper.do(("rust", k))
                    some.append(k)
                except errors.Never:
                    pass
            places = {k: keeper.stand_now()[k] for k in some}
            self.assertEqual(keeper.rust_now(), sorted(some))
            less = rusted(lock, places)
            wish = random_wish(rng, lock)
            if all(wish[k] in (None, places[k]) for k in some):
                row = tuple(tuple(one[k] for k in range(4) if k not in places) for one in (keeper.stand_now(), wish))
                book = keeper.way_to((wish,))
                self.assertEqual(book and weighed(keeper.free_lock(), book)[2], least(less, row))


class ChangesTest(Case):
    def test_each(self):
        keeper = self.keeper()
        deeds = [
            ("put_gap", 1, 2, 0, 9), ("put_way", 1, 2, 0, (0,)), ("priced", 1, 2, 0, 8), ("out_way", 1, 0, 1, (1,)),
            ("out_gap", 1, 0, 1),
        ]
        for deed in deeds:
            keeper.do(deed)
        self.assertEqual(keeper.lock_now(), (
            LOCK[0], (3, ((1, 0, 7, ((1,),)), (1, 2, 1, ((0,),)), (2, 0, 8, ((0,),)))),
        ))
        self.assertEqual(keeper.deeds_now()[1:], deeds)
        self.assertEqual((keeper.coins_now(), keeper.gone_now()), (100, 0))

    def test_refused_as_the_changes_are(self):
        keeper = self.keeper()
        self.stays("NoBolt", keeper, ("put_gap", 2, 0, 0, 0), ("out_gap", None, 0, 0), ("put_way", True, 0, 1, None),
                   ("out_way", -1, 0, 1, None), ("priced", "0", 0, 1, None))
        self.stays("NoGap", keeper, ("put_gap", 0, 0, 0, 0), ("out_gap", 1, 2, 0), ("put_way", 1, 2, 0, None),
                   ("out_way", 1, 0, 2, None), ("priced", 0, 0, 2, None))
        self.stays("NoPrice", keeper, ("put_gap", 1, 0, 1, 0), ("priced", 1, 0, 1, 1000001))
        self.stays("NoWay", keeper, ("put_way", 1, 0, 1, (2,)), ("out_way", 1, 0, 1, (0,)))
        self.stays("Taken", keeper, ("put_gap", 1, 0, 1, 5), ("put_way", 1, 0, 1, (1,)))

    def test_no_lock_goes_ahead_of_never(self):
        words = [(one, other) for one in range(3) for other in range(3)]
        free = tuple((here, there, 1, ((),)) for here in range(3) for there in range(3) if here != there)
        lock = (3, free), (3, ()), (2, ((0, 1, 1, tuple(words[:7])), (1, 0, 1, (words[7],))))
        keeper = Keeper(lock, (0, 0, 0), (None, None, 0))
        caught = self.refused("NoLock", keeper.do, ("put_way", 2, 0, 1, words[8]))
        self.assertEqual(caught.fault, ("bolt", 2))
        self.stays("NoLock", keeper, ("put_way", 2, 0, 1, words[8]))

    def test_never(self):
        keeper = self.keeper()
        keeper.run([("step", 0, 1), ("step", 1, 1)])
        self.stays("Never", keeper, ("out_gap", 1, 1, 0), ("out_way", 1, 1, 0, (1,)))
        keeper.do(("priced", 1, 1, 0, 1000000))
        self.assertEqual(keeper.home_now(), 1000000)
        keeper.run([("put_gap", 1, 2, 0, 5), ("put_way", 1, 2, 0, (0,)), ("out_gap", 1, 1, 0)])
        self.assertEqual(keeper.home_now(), 2 + 1 + 5)
        # A run is refused at its turn, though it would come right at its end.
        self.stays("Never", keeper, ("out_way", 1, 2, 0, (0,)))
        self.refused("Never", keeper.run, [("out_way", 1, 2, 0, (0,)), ("put_way", 1, 2, 0, (0,))])


class RunTest(Case):
    def test_no_deed(self):
        for thing in [deed for deed in anything.plain_things() if deed != []] + [("earn",)]:
            self.refused("NoDeed", self.keeper(0).do, thing)
        keeper = self.keeper()
        right = {
            "earn": (1,), "step": (0, 1), "go": (((0, 0),), 0), "rust": (0,), "free": (0,), "put_gap": (1, 2, 0, 1),
            "out_gap": (1, 0, 1), "put_way": (1, 0, 1, (0,)), "out_way": (1, 0, 1, (1,)), "priced": (1, 0, 1, 1),
        }
        self.assertEqual({word: len(things) + 1 for word, things in right.items()}, COUNTS)
        for word, things in right.items():
            deeds = [(word,) + things[:-1], (word,) + things + (0,), [word] + list(things), (word, things), word]
            deeds += [(word.upper(),) + things, (word + " ",) + things, ((word,),) + things, ([word],) + things, ()]
            self.stays("NoDeed", keeper, *[deed for deed in deeds if len(deed) != len(things) + 1 or deed[0] != word
                                           or not isinstance(deed, tuple)])
        self.stays("NoDeed", keeper, None, [], [("earn", 1)], {}, "earn", ("undo",), ("again",), ("run", []))

    def test_no_list(self):
        keeper = self.keeper()
        for thing in [None, True, 0, (), (("earn", 1),), {}, {0: ("earn", 1)}, "", "earn", ("earn", 1)]:
            self.refused("NoDeed", keeper.run, thing)
        self.assertEqual(keeper.deeds_now(), [("earn", 100)])

    def test_all_or_none(self):
        keeper = self.keeper(0)
        keeper.run([("earn", 3), ("step", 0, 1)])
        self.assertEqual((keeper.stand_now(), keeper.coins_now(), keeper.paid_now()), ((1, 0), 0, 3))
        self.assertEqual(keeper.deeds_now(), [[("earn", 3), ("step", 0, 1)]])
        state = told(keeper)
        last = ("step", 1, 1)
        self.assertEqual(self.refused("Poor", keeper.run, [("earn", 3), ("rust", 0), ("earn", 1), last]).price, 5)
        self.assertEqual(told(keeper), state)
        keeper.run([("earn", 3), ("rust", 0), ("earn", 2), last])
        self.assertEqual((keeper.stand_now(), keeper.rust_now(), keeper.coins_now()), ((1, 1), [0], 0))

    def test_refused_at_the_first_that_is_due(self):
        keeper = self.keeper(0)
        for deeds, name in (
            ([("earn", 0), None], "NoPrice"), ([None, ("earn", 0)], "NoDeed"), ([("step", 0, 1), ("rust", 9)], "Poor"),
            ([("earn", 9), ("step", 0, 1), ("step", 0, 1)], "NoStep"), ([("rust", 0), ("rust", 0)], "Taken"),
            ([("earn", 1), [("earn", 1)]], "NoDeed"), ([[]], "NoDeed"),
        ):
            self.refused(name, keeper.run, deeds)
            self.assertEqual(keeper.deeds_now(), [])

    def test_an_empty_run_is_one(self):
        keeper = self.keeper(5)
        keeper.run([])
        self.assertEqual(keeper.deeds_now(), [("earn", 5), []])
        keeper.undo()
        self.assertEqual((keeper.deeds_now(), keeper.coins_now()), ([("earn", 5)], 5))
        keeper.undo()
        self.assertEqual((keeper.deeds_now(), keeper.coins_now()), ([], 0))
        keeper.run([])
        self.refused("NothingDone", keeper.again)

    def test_what_is_handed_in_may_be_changed_behind(self):
        keeper = self.keeper(0)
        deeds = [("earn", 5), ("step", 0, 1)]
        keeper.run(deeds)
        deeds.append(("earn", 1))
        deeds[0] = None
        self.assertEqual(keeper.deeds_now(), [[("earn", 5), ("step", 0, 1)]])
        kept = keeper.deeds_now()
        kept[0].clear()
        kept.clear()
        keeper.rust_now().append(0)
        self.assertEqual(keeper.deeds_now(), [[("earn", 5), ("step", 0, 1)]])
        self.assertEqual(keeper.rust_now(), [])
        keeper.undo()
        keeper.again()
        self.assertEqual(keeper.deeds_now(), [[("earn", 5), ("step", 0, 1)]])


class UndoTest(Case):
    def test_nothing_done(self):
        keeper = self.keeper(0)
        self.refused("NothingDone", keeper.undo)
        self.refused("NothingDone", keeper.again)
        keeper.do(("earn", 4))
        self.refused("NothingDone", keeper.again)
        keeper.undo()
        self.refused("NothingDone", keeper.undo)
        keeper.again()
        self.refused("NothingDone", keeper.again)
        self.assertEqual(keeper.coins_now(), 4)

    def test_each_deed_taken_back_and_done_again(self):
        keeper = self.keeper(0)
        states = [told(keeper)]
        for deed in [
            ("earn", 50), ("step", 0, 1), ("rust", 0), ("step", 1, 1), ("priced", 1, 1, 0, 9), ("go", ((None, 0),), None),
            ("free", 0), ("put_gap", 1, 2, 1, 4), ("put_way", 1, 2, 1, (0,)), ("out_way", 1, 0, 1, (1,)),
            ("out_gap", 1, 0, 1), ("earn", 1),
        ]:
            keeper.do(deed)
            states.append(told(keeper))
        keeper.run([("earn", 1), ("step", 0, 0), ("step", 0, 1)])
        states.append(told(keeper))
        for _ in range(2):
            for state in states[-2::-1]:
                keeper.undo()
                self.assertEqual(told(keeper), state)
            for state in states[1:]:
                keeper.again()
                self.assertEqual(told(keeper), state)

    def test_a_new_deed_lets_what_was_taken_back_go(self):
        for new in (lambda keeper: keeper.do(("earn", 9)), lambda keeper: keeper.run([])):
            keeper = self.keeper(5)
            keeper.do(("step", 0, 1))
            keeper.undo()
            keeper.undo()
            keeper.again()
            new(keeper)
            self.refused("NothingDone", keeper.again)
            keeper.undo()
            self.assertEqual(keeper.deeds_now(), [("earn", 5)])
            keeper.again()
            self.refused("NothingDone", keeper.again)

    def test_a_refused_one_lets_none_go(self):
        keeper = self.keeper(5)
        keeper.do(("step", 0, 1))
        state = told(keeper)
        keeper.undo()
        self.refused("NoDeed", keeper.do, None)
        self.refused("NoStep", keeper.run, [("earn", 1), ("step", 0, 0)])
        self.refused("NoDeed", keeper.run, None)
        keeper.again()
        self.assertEqual(told(keeper), state)


class CopiedTest(Case):
    def test_each_goes_its_own_way(self):
        keeper = self.keeper(20)
        keeper.run([("step", 0, 1), ("rust", 0)])
        keeper.do(("earn", 1))
        keeper.undo()
        twin = keeper.copied()
        self.assertIsInstance(twin, Keeper)
        self.assertEqual(told(twin), told(keeper))
        state = told(keeper)
        twin.again()
        self.assertEqual(twin.coins_now(), 18)
        twin.do(("step", 1, 1))
        twin.undo()
        twin.undo()
        self.assertEqual(told(twin), state)
        self.assertEqual(told(keeper), state)
        keeper.undo()
        keeper.undo()
        self.assertEqual(keeper.deeds_now(), [])
        self.assertEqual(told(twin), state)
        twin.undo()
        self.assertEqual(twin.rust_now(), [])
        keeper.do(("earn", 3))
        twin.again()
        self.assertEqual(told(twin), state)
        self.refused("NothingDone", keeper.again)

    def test_home_goes_along(self):
        keeper = self.keeper()
        keeper.run([("step", 0, 1), ("step", 1, 1)])
        twin = keeper.copied()
        self.stays("Never", twin, ("rust", 1), ("out_gap", 1, 1, 0))
        twin.do(("priced", 1, 1, 0, 1))
        self.assertEqual((twin.home_now(), keeper.home_now()), (1, 7))


class BesideAStateTest(Case):
    def deed(self, rng, keeper):
        """A deed, many of them refused."""
        lock = keeper.lock_now()
        k = rng.randrange(len(lock))
        here, there = rng.choice([gap[:2] for gap in lock[k][1]] or [(0, 1)]) if rng.random() < 0.6 else (
            rng.randrange(lock[k][0]), rng.randrange(lock[k][0]))
        way = tuple(rng.randrange(bolt[0]) for bolt in lock[:k])
        ways = [way for gap in lock[k][1] if gap[:2] == (here, there) for way in gap[3]]
        steps = plain.steps(keeper.free_lock(), keeper.stand_now())
        step = rng.choice(steps)[:2] if steps and rng.random() < 0.8 else (k, there)
        wishes = tuple(random_wish(rng, lock) for _ in range(rng.randint(1, 3)))
        return rng.choice([
            ("earn", rng.choice([0, 1, 3, 9])), ("step",) + step, ("step",) + step, ("step",) + step,
            ("go", wishes, rng.choice([None, None, 0, 1, 2, 3])), ("go", wishes, None), ("rust", k), ("free", k),
            ("put_gap", k, here, there, rng.randint(1, 5)), ("out_gap", k, here, there),
            ("put_way", k, here, there, way), ("put_way", k, here, there, way),
            ("out_way", k, here, there, rng.choice(ways or [way])), ("priced", k, here, there, rng.randint(0, 5)),
            None, ("earn",),
        ])

    def way_to(self, lock, free, stand, wishes):
        """The way that is told, of the free lock."""
        return told_way(free, (stand,) + wishes)

    def both(self, keeper, model, ask, other):
        """Have both do the same, or be refused alike."""
        names = []
        for one in (ask, other):
            try:
                one()
                names.append(None)
            except (errors.BoltError, errors.NothingDone) as caught:
                names.append((caught.__class__, getattr(caught, "price", None), getattr(caught, "fault", None)))
        self.assertEqual(names[0], names[1])
        self.assertEqual(told(keeper), wanted(model))
        return names[0][0].__name__ if names[0] else None

    def turn(self, rng, keeper, model):
        """One deed, run, undo or again of both."""
        kind = rng.random()
        if kind < 0.55:
            deed = self.deed(rng, keeper)
            return self.both(keeper, model, lambda: keeper.do(deed), lambda: model.run([deed], self.way_to, True))
        if kind < 0.75:
            deeds = [self.deed(rng, keeper) for _ in range(rng.randint(0, 3))]
            return self.both(keeper, model, lambda: keeper.run(deeds), lambda: model.run(deeds, self.way_to))
        if kind < 0.9:
            return self.both(keeper, model, keeper.undo, model.undo)
        return self.both(keeper, model, keeper.again, model.again)

    def test_beside_a_state_reckoned_by_itself(self):
        names = {}
        for seed in range(40):
            rng = random.Random(seed)
            lock = random_lock(seed, many=rng.randint(1, 3), both=seed % 2 > 0)
            stand, home = random_stand(rng, lock), random_wish(rng, lock, none=0.7)
            if plain.least(lock, (stand, home)) is None:
                self.refused("Never", Keeper, lock, stand, home)
                continue
            pairs = [(Keeper(lock, stand, home), Plain(lock, stand, home))]
            for _ in range(60):
                keeper, model = rng.choice(pairs)
                name = self.turn(rng, keeper, model)
                names[name] = names.get(name, 0) + 1
                if rng.random() < 0.05:
                    pairs.append((keeper.copied(), model.copied()))
            for keeper, model in pairs:
                self.assertEqual(told(keeper), wanted(model))
        self.assertTrue({None, "Never", "Poor", "NoStep", "Taken", "NoGap", "NoDeed", "NothingDone", "NoPlace"} <= set(names))


class GreatTest(Case):
    def test_goings_of_great_counts(self):
        manys = [4] * 60
        lock = line_lock(manys)
        keeper = Keeper(lock, (0,) * 60, (0,) * 60)
        keeper.do(("earn", 10 ** 40))
        there = line_stand(manys, 4 ** 60 - 1)
        for place in (0, 10 ** 30, 10 ** 35 + 7):
            keeper.do(("go", (there,), place - keeper.gone_now()))
            self.assertEqual(line_place(manys, keeper.stand_now()), place)
            self.assertEqual((keeper.gone_now(), keeper.home_now()), (place, place))
        self.stays("NoPlace", keeper, ("go", (there,), 4 ** 60 - 10 ** 35 - 7))
        keeper.do(("go", (there, (0,) * 60, there), None))
        self.assertEqual(keeper.gone_now(), 3 * (4 ** 60 - 1))
        self.assertEqual(keeper.coins_now(), 10 ** 40 - 3 * (4 ** 60 - 1))
        keeper.undo()
        self.assertEqual(keeper.gone_now(), 10 ** 35 + 7)

    def test_a_great_way_that_is_too_dear(self):
        manys = [3] * 60
        keeper = Keeper(line_lock(manys), (0,) * 60, (None,) * 60)
        keeper.do(("earn", 10 ** 28))
        there = line_stand(manys, 10 ** 28 + 1)
        self.assertEqual(self.refused("Poor", keeper.do, ("go", (there,), None)).price, 10 ** 28 + 1)
        keeper.do(("go", (there,), 10 ** 28))
        self.assertEqual(keeper.coins_now(), 0)
        keeper.do(("rust", 0))
        self.assertEqual(len([step for step in keeper.free_lock() if step[1]]), 59)

    def test_ways_of_random_great_locks(self):
        for seed in range(4):
            rng = random.Random(seed)
            lock = random_lock(seed, manys=[rng.randint(2, 4) for _ in range(60)], both=True, greatest=9)
            home = random_wish(rng, lock, none=0.9)
            keeper = Keeper(lock, random_stand(rng, lock), home)
            keeper.do(("earn", 10 ** 40))
            for _ in range(4):
                wishes = tuple(random_wish(rng, lock, none=0.8) for _ in range(rng.randint(1, 3)))
                k = rng.randrange(60)
                try:
                    keeper.do((rng.choice(["rust", "free"]), k))
                except (errors.Taken, errors.Never):
                    pass
                free = keeper.free_lock()
                book = keeper.way_to(wishes)
                price = least(free, (keeper.stand_now(),) + wishes)
                if price is None:
                    self.assertIs(book, None)
                    continue
                begin, _, paid, steps = weighed(free, book)
                self.assertEqual((begin, paid), (keeper.stand_now(), price))
                count = rng.randint(0, steps)
                before = keeper.paid_now()
                keeper.do(("go", wishes, count))
                self.assertEqual(keeper.stand_now(), stand_at(free, book, count))
                self.assertEqual(keeper.paid_now() - before, price_at(free, book, count))
                self.assertEqual(keeper.home_now(), least(keeper.free_lock(), (keeper.stand_now(), home)))

    def test_many_deeds(self):
        keeper = Keeper(ring_lock(60), (0,) * 60, (0,) * 60)
        keeper.run([("earn", 1)] * 300)
        for n in range(300):
            keeper.do(("step", 0, 1 - n % 2))
        self.assertEqual((keeper.gone_now(), keeper.coins_now()), (300, 0))
        for _ in range(301):
            keeper.undo()
        self.assertEqual((keeper.gone_now(), keeper.coins_now()), (0, 0))


if __name__ == "__main__":
    unittest.main()
