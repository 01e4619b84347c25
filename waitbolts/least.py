"""Least prices, and how least ways begin and how many there are."""

from waitbolts.checks import is_whole_in
from waitbolts.errors import NoMost
from waitbolts.locks import need_lock, need_row, need_stand, need_wish
from waitbolts.notes import Counts, Firsts, NoNotes
from waitbolts.tables import entry_of

GREATEST_MOST = 10 ** 60


def least(lock, row):
    """The least price of a way that meets a row of wishes; None where none does."""
    need_lock(lock)
    need_row(lock, row)
    entry = entry_of(lock, row, NoNotes())
    return None if entry is None else entry[0]


def first_steps(lock, stand, wish):
    """The rising list of steps (k, to) with which some least way from a stand to a wish begins."""
    need_lock(lock)
    need_stand(lock, stand)
    need_wish(lock, wish)
    entry = entry_of(lock, (stand, wish), Firsts())
    return [] if entry is None else list(entry[1])


def how_many(lock, stand, wish, most):
    """How many least ways lead from a stand to a wish, or most, where there are more."""
    need_lock(lock)
    need_stand(lock, stand)
    need_wish(lock, wish)
    if not is_whole_in(most, 1, GREATEST_MOST):
        raise NoMost()
    entry = entry_of(lock, (stand, wish), Counts(most))
    return 0 if entry is None else entry[1]
