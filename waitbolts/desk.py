"""A desk that is told rows, and answers each with a text."""

from waitbolts.books import told_way, weighed
from waitbolts.errors import NoRow, NotYet
from waitbolts.keepers import Keeper
from waitbolts.least import first_steps, how_many, least
from waitbolts.locks import can_step, stands_of
from waitbolts.reach import come_to, coming
from waitbolts.signs import number_sign, places_sign, read_row
from waitbolts.texts import read_lock, show_lock

LOCK_ROW = "lock\n"
ROWS = {
    "show": ("",), "stands": ("",), "steps": ("s",), "least": ("ww", "www", "wwww"), "many": ("swn",),
    "firsts": ("sw",), "coming": ("w",), "comes": ("w",), "way": ("ww", "www", "wwww"), "keeper": ("sw",),
    "earn": ("n",), "step": ("nn",), "go": ("mw", "mww", "mwww"), "rust": ("", "n"), "free": ("n",),
    "undo": ("",), "again": ("",), "stand": ("",), "coins": ("",), "paid": ("",), "gone": ("",), "home": ("",),
}
OF_LOCK = ("show", "stands", "steps", "least", "many", "firsts", "coming", "comes", "way", "keeper")


class Desk:
    """A lock, or none yet, and a keeper of it, or none yet."""

    def __init__(self):
        self.lock = None
        self.keeper = None

    def say(self, row):
        """The answer to a row."""
        if isinstance(row, str) and row.startswith(LOCK_ROW):
            self.lock = read_lock(row[len(LOCK_ROW):])
            self.keeper = None
            return "ok"
        told = read_row(row, dict(ROWS)) if isinstance(row, str) else None
        if told is None:
            raise NoRow()
        word, *things = told
        if word in OF_LOCK:
            return self.say_of_lock(word, things)
        if self.keeper is None:
            raise NotYet()
        if things or word in ("undo", "again"):
            do_deed(self.keeper, word, things)
            return "ok"
        return kept_answer(self.keeper, word)

    def say_of_lock(self, word, things):
        """The answer to a row that asks for a lock."""
        if self.lock is None:
            raise NotYet()
        if word == "keeper":
            self.keeper = Keeper(self.lock, things[0], things[1])
            return "ok"
        return lock_answer(self.lock, word, things)


def lock_answer(lock, word, things):
    """The answer to a row that asks something of a lock."""
    if word == "show":
        return show_lock(lock)
    if word == "stands":
        return str(stands_of(lock))
    if word == "steps":
        return listed([f"{k} {to} {price}" for k, to, price in can_step(lock, things[0])])
    if word == "least":
        return number_sign(least(lock, tuple(things)))
    if word == "many":
        return str(how_many(lock, things[0], things[1], things[2]))
    if word == "firsts":
        return listed([f"{k} {to}" for k, to in first_steps(lock, things[0], things[1])])
    if word == "coming":
        return str(coming(lock, things[0]))
    if word == "comes":
        return str(come_to(lock, things[0]))
    return way_answer(lock, tuple(things))


def way_answer(lock, row):
    """Price and steps of the way told of a row of wishes."""
    book = told_way(lock, row)
    if book is None:
        return number_sign(None)
    _, _, price, steps = weighed(lock, book)
    return f"{price} {steps}"


def do_deed(keeper, word, things):
    """Have a keeper do what a row tells."""
    if word == "undo":
        keeper.undo()
    elif word == "again":
        keeper.again()
    elif word == "go":
        keeper.do(("go", tuple(things[1:]), things[0]))
    else:
        keeper.do((word,) + tuple(things))


def kept_answer(keeper, word):
    """The answer to a row that asks something of a keeper."""
    if word == "stand":
        return places_sign(keeper.stand_now())
    if word == "coins":
        return str(keeper.coins_now())
    if word == "paid":
        return str(keeper.paid_now())
    if word == "gone":
        return str(keeper.gone_now())
    if word == "home":
        return str(keeper.home_now())
    return listed([str(k) for k in keeper.rust_now()])


def listed(texts):
    """The texts of a list's things as one."""
    return "; ".join(texts) if texts else number_sign(None)
