"""Papers that bar what is cheaper, read from the last wish on.

Each way gone back is a way of the lock whose gaps are turned about, so such a
paper is one of that lock with its rows turned about.
"""

from waitbolts.changes import turned
from waitbolts.locks import need_lock, need_row
from waitbolts.papermaking import paper_of
from waitbolts.paperrules import all_keep, is_at_most, is_paper, need_bar


def keeps_behind(lock, paper):
    """Whether anything is a paper that keeps from behind."""
    need_lock(lock)
    return is_paper(lock, paper) and all_keep(turned(lock), rows_turned(paper))


def bars_behind(lock, row, price, paper):
    """Whether anything is a paper that keeps from behind and says no less than a price, or never, of a row."""
    need_lock(lock)
    need_row(lock, row)
    need_bar(price)
    return keeps_behind(lock, paper) and is_at_most(price, paper.get(row, 0))


def behind_paper(lock, row):
    """A paper from behind that bars what least tells of a row of wishes."""
    need_lock(lock)
    need_row(lock, row)
    return rows_turned(paper_of(turned(lock), row[::-1]))


def rows_turned(paper):
    """A paper with each row turned about."""
    return {row[::-1]: number for row, number in paper.items()}
