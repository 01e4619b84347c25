"""Papers that bar what is cheaper, read from the first wish on."""

from waitbolts.locks import need_lock, need_row
from waitbolts.papermaking import paper_of
from waitbolts.paperrules import all_keep, is_at_most, is_paper, need_bar


def keeps(lock, paper):
    """Whether anything is a paper that keeps."""
    need_lock(lock)
    return is_paper(lock, paper) and all_keep(lock, paper)


def bars(lock, row, price, paper):
    """Whether anything is a paper that keeps and says no less than a price, None for never, of a row of wishes."""
    need_lock(lock)
    need_row(lock, row)
    need_bar(price)
    return keeps(lock, paper) and is_at_most(price, paper.get(row, 0))


def told_paper(lock, row):
    """A paper that bars what least tells of a row of wishes."""
    need_lock(lock)
    need_row(lock, row)
    return paper_of(lock, row)
