"""Books: weighed, told of least ways, and held beside rows of wishes."""

from waitbolts.bookparts import need_book
from waitbolts.locks import need_lock, need_row
from waitbolts.meetings import Layers, odd_bits
from waitbolts.writing import written


def weighed(lock, book):
    """A tuple (begin, end, price, steps) of a book's way."""
    need_lock(lock)
    return need_book(lock, book).way()


def told_way(lock, row):
    """The book of a least way that meets a row of wishes; None where none does."""
    need_lock(lock)
    need_row(lock, row)
    return written(lock, row)


def meets(lock, book, row):
    """Whether a book's way meets a row of wishes."""
    need_lock(lock)
    reader = need_book(lock, book)
    need_row(lock, row)
    begin, end, _, _ = reader.way()
    if odd_bits(begin, row[0]) or odd_bits(end, row[-1]):
        return False
    between = row[1:-1]
    return Layers(reader.parts, between).met[-1][0] == len(between)
