"""Deeds of a keeper: how it stands, and how it stands behind a deed."""

from waitbolts.bookparts import need_book
from waitbolts.changes import need_bolt, out_gap, out_way, priced, put_gap, put_way
from waitbolts.checks import is_whole_in
from waitbolts.errors import Never, NoDeed, NoPlace, NoPrice, NoStep, NoWishes, Poor, Taken
from waitbolts.locks import need_row, price_of_step
from waitbolts.notes import NoNotes
from waitbolts.tables import Tower
from waitbolts.words import moves_by_word
from waitbolts.writing import written

MOST_COINS = 10 ** 40
# How many things each deed has behind its word.
DEEDS = {
    "earn": 1, "step": 2, "go": 2, "rust": 1, "free": 1,
    "put_gap": 4, "out_gap": 3, "put_way": 4, "out_way": 4, "priced": 4,
}


class State:
    """How a keeper stands: its lock, a rising tuple of its rusted bolts, its stand, coins, what it paid, its steps.

    A state is never changed, so keepers keep those that they come back to.
    """

    def __init__(self, lock, rust, stand, coins, paid, steps):
        self.lock = lock
        self.rust = rust
        self.stand = stand
        self.coins = coins
        self.paid = paid
        self.steps = steps

    def earned(self, coins):
        """The state with more coins."""
        return State(self.lock, self.rust, self.stand, self.coins + coins, self.paid, self.steps)

    def changed(self, lock, rust):
        """The state with another lock, and other rusted bolts."""
        return State(lock, rust, self.stand, self.coins, self.paid, self.steps)

    def moved(self, stand, price, steps):
        """The state behind so many steps more to another stand, which are paid."""
        return State(self.lock, self.rust, stand, self.coins - price, self.paid + price, self.steps + steps)


class Free:
    """The lock of a state without the gaps of its rusted bolts, its moves by word, and the tower of the ways home.

    Beside them stand the least prices home from all stands that were asked for.
    """

    def __init__(self, state, home):
        self.held = (state.lock, state.rust)
        self.lock = tuple([
            (many, () if k in state.rust else gaps) for k, (many, gaps) in enumerate(state.lock)
        ])
        self.moves = moves_by_word(self.lock)
        self.tower = Tower(self.lock, (home,), NoNotes())
        self.prices = {}

    def price_from(self, stand):
        """The least price home from a stand; None where no way leads there."""
        if stand not in self.prices:
            self.prices[stand] = self.tower.price_from(stand)
        return self.prices[stand]


class Home:
    """The wish that a keeper has to be able to come to, and the free lock that it was held beside last."""

    def __init__(self, wish):
        self.wish = wish
        self.last = None

    def free(self, state):
        """The free lock of a state."""
        # Most deeds change neither the lock nor the rust, and towers are dear.
        if self.last is None or self.last.held != (state.lock, state.rust):
            self.last = Free(state, self.wish)
        return self.last

    def price_from(self, state):
        """The least price home from a state; None where no way leads there."""
        return self.free(state).price_from(state.stand)


def done(home, state, deed):
    """The state behind a deed; refused where it can't be done."""
    need_deed(deed)
    behind = tried(home, state, deed[0], deed[1:])
    if home.price_from(behind) is None:
        raise Never()
    if behind.coins < 0:
        raise Poor(behind.paid - state.paid)
    return behind


def need_deed(thing):
    """Refuse what is no tuple by its word and count of things."""
    if not isinstance(thing, tuple) or not thing or not isinstance(thing[0], str):
        raise NoDeed()
    if DEEDS.get(thing[0]) != len(thing) - 1:
        raise NoDeed()


def tried(home, state, word, things):
    """The state behind a deed, whether a way leads home and its steps can be paid or not."""
    if word == "earn":
        return earned(state, *things)
    if word == "step":
        return stepped(home, state, things)
    if word == "go":
        return went(home, state, *things)
    if word in ("rust", "free"):
        return state.changed(state.lock, rust_behind(state, word, *things))
    return state.changed(lock_behind(state.lock, word, things), state.rust)


def earned(state, coins):
    """The state behind earning."""
    if not is_whole_in(coins, 1, MOST_COINS):
        raise NoPrice()
    return state.earned(coins)


def stepped(home, state, step):
    """The state behind a single step."""
    price = price_of_step(home.free(state).moves, state.stand, step)
    if price is None:
        raise NoStep(0)
    k, to = step
    return state.moved(state.stand[:k] + (to,) + state.stand[k + 1:], price, 1)


def went(home, state, wishes, count):
    """The state behind so many steps, None for all, of the way that meets some wishes."""
    lock = home.free(state).lock
    book = way_book(lock, state.stand, wishes)
    if book is None:
        raise Never()
    reader = need_book(lock, book)
    _, _, _, most = reader.way()
    steps = most if count is None else count
    if not is_whole_in(steps, 0, most):
        raise NoPlace()
    stand, price, _ = reader.reached(steps)
    return state.moved(stand, price, steps)


def way_book(lock, stand, wishes):
    """The book of a least way from a stand that meets one to three wishes in their order; None where none does."""
    if not isinstance(wishes, tuple):
        raise NoWishes()
    row = (stand,) + wishes
    need_row(lock, row)
    return written(lock, row)


def rust_behind(state, word, k):
    """The rusted bolts behind one more is rusted, or freed."""
    need_bolt(state.lock, k)
    if (k in state.rust) == (word == "rust"):
        raise Taken()
    if word == "rust":
        return tuple(sorted(state.rust + (k,)))
    return tuple([bolt for bolt in state.rust if bolt != k])


def lock_behind(lock, word, things):
    """The lock behind a change."""
    if word == "put_gap":
        return put_gap(lock, *things)
    if word == "out_gap":
        return out_gap(lock, *things)
    if word == "put_way":
        return put_way(lock, *things)
    if word == "out_way":
        return out_way(lock, *things)
    return priced(lock, *things)
