"""Locks, books and papers as texts, written and read."""

from waitbolts.bookparts import MOST_ENTRIES, MOST_PARTS
from waitbolts.checks import is_tuple_of, is_whole
from waitbolts.errors import NoBook, NoPaper, NoText
from waitbolts.locks import MOST_BOLTS, is_lock, need_lock
from waitbolts.paperrules import MOST_ROWS
from waitbolts.signs import number_sign, places_sign, read_row

# The least number of more than three hundred figures.
TOO_GREAT = (10 ** 60) ** 5
LOCK_ROWS = {"bolt": ("n",), "gap": ("nnn",), "way": ("s",)}
BOOK_ROWS = {"part": ("ss",), "step": ("nn",), "use": ("n",)}
PAPER_ROWS = {"bar": ("mww", "mwww", "mwwww")}


def show_lock(lock):
    """The text of a lock."""
    need_lock(lock)
    rows = []
    for many, gaps in lock:
        rows.append(f"bolt {many}")
        for here, there, price, ways in gaps:
            rows.append(f"gap {here} {there} {price}")
            rows.extend(["way " + places_sign(way) for way in ways])
    return "\n".join(rows)


def show_book(book):
    """The text of a book."""
    wrong = wrong_part(book)
    if wrong is not None:
        raise NoBook(wrong)
    rows = []
    for begin, end, entries in book:
        rows.append(f"part {places_sign(begin)} {places_sign(end)}")
        rows.extend([entry_row(entry) for entry in entries])
    return "\n".join(rows)


def entry_row(entry):
    """The row of an entry."""
    return f"use {entry[1]}" if entry[0] == "part" else f"step {entry[1]} {entry[2]}"


def show_paper(paper):
    """The text of a paper."""
    if not is_paper_by_form(paper):
        raise NoPaper()
    rows = [bar_row(row, number) for row, number in paper.items()]
    return "\n".join(sorted(rows))


def bar_row(row, number):
    """The row of a paper's row."""
    return " ".join(["bar", number_sign(number)] + [places_sign(wish) for wish in row])


def wrong_part(thing):
    """The number of the first part that is none by its form; None where a thing is a book by its form."""
    if not is_tuple_of(thing, 1, MOST_PARTS):
        return 0
    for number, part in enumerate(thing):
        if not is_part_by_form(part):
            return number
    return None


def is_part_by_form(thing):
    """Whether a thing is a part by its form, whatever lock it may be of."""
    if not is_tuple_of(thing, 3, 3):
        return False
    begin, end, entries = thing
    if not is_tuple_of(begin, 1, MOST_BOLTS) or not is_tuple_of(end, len(begin), len(begin)):
        return False
    if not are_numbers(begin) or not are_numbers(end) or not is_tuple_of(entries, 0, MOST_ENTRIES):
        return False
    return all([is_entry_by_form(entry) for entry in entries])


def is_entry_by_form(thing):
    """Whether a thing is an entry by its form."""
    if is_tuple_of(thing, 3, 3) and thing[0] == "step":
        return are_numbers(thing[1:])
    return is_tuple_of(thing, 2, 2) and thing[0] == "part" and are_numbers(thing[1:])


def are_numbers(things):
    """Whether all things are whole numbers from 0 on."""
    return all([is_whole(thing) and thing >= 0 for thing in things])


def is_paper_by_form(thing):
    """Whether a thing is a paper by its form, whatever lock it may be of."""
    if not isinstance(thing, dict) or len(thing) > MOST_ROWS:
        return False
    return all([
        is_row_by_form(row) and (number is None or (is_whole(number) and number >= 1))
        for row, number in thing.items()
    ])


def is_row_by_form(thing):
    """Whether a thing is a tuple of two to four wishes of as many places each."""
    if not is_tuple_of(thing, 2, 4) or not is_tuple_of(thing[0], 1, MOST_BOLTS):
        return False
    many = len(thing[0])
    return all([
        is_tuple_of(wish, many, many) and are_numbers([place for place in wish if place is not None])
        for wish in thing
    ])


def read_lock(text):
    """The lock that a text tells."""
    rows = rows_in(text)
    bolts = []
    for number, told in enumerate(told_rows(rows, dict(LOCK_ROWS))):
        if not put_lock_row(bolts, told):
            raise NoText(number)
    lock = tuple([
        (many, tuple([(here, there, price, tuple(ways)) for here, there, price, ways in gaps])) for many, gaps in bolts
    ])
    if not is_lock(lock):
        raise NoText(len(rows))
    return lock


def put_lock_row(bolts, told):
    """Put what a row tells behind some bolts, and tell whether it is a row, and may come there."""
    if told is None:
        return False
    word, *things = told
    if word == "bolt":
        bolts.append((things[0], []))
        return True
    if not bolts:
        return False
    gaps = bolts[-1][1]
    if word == "gap":
        gaps.append((things[0], things[1], things[2], []))
        return True
    if not gaps:
        return False
    gaps[-1][3].append(things[0])
    return True


def read_book(text):
    """The book that a text tells."""
    rows = rows_in(text)
    parts = []
    for number, told in enumerate(told_rows(rows, dict(BOOK_ROWS))):
        if not put_book_row(parts, told):
            raise NoText(number)
    book = tuple([(begin, end, tuple(entries)) for begin, end, entries in parts])
    if wrong_part(book) is not None:
        raise NoText(len(rows))
    return book


def put_book_row(parts, told):
    """Put what a row tells behind some parts, and tell whether it is a row, and may come there."""
    if told is None:
        return False
    word, *things = told
    if word == "part":
        parts.append((things[0], things[1], []))
        return True
    if not parts:
        return False
    parts[-1][2].append(("part", things[0]) if word == "use" else ("step", things[0], things[1]))
    return True


def read_paper(text):
    """The paper that a text tells."""
    rows = rows_in(text)
    paper = {}
    for number, told in enumerate(told_rows(rows, dict(PAPER_ROWS))):
        if told is None:
            raise NoText(number)
        paper[tuple(told[2:])] = told[1]
    if len(paper) < len(rows) or rows != sorted(rows) or not is_paper_by_form(paper):
        raise NoText(len(rows))
    return paper


def rows_in(text):
    """The list of a text's rows; refused where it is no text."""
    if not isinstance(text, str):
        raise NoText(0)
    return text.split("\n") if text else []


def told_rows(rows, forms):
    """A list of what read_row tells of each row, None also where a number or a word of it is too long."""
    # Great books have the same rows again and again.
    found = {}
    for row in rows:
        if row not in found:
            told = read_row(row, forms)
            found[row] = told if told is not None and all([is_short(thing) for thing in told[1:]]) else None
    return [found[row] for row in rows]


def is_short(thing):
    """Whether a number, a place or None has at most 300 figures, or a tuple of them at most sixty places."""
    if isinstance(thing, tuple):
        return len(thing) <= MOST_BOLTS and all([is_short(place) for place in thing])
    return thing is None or thing < TOO_GREAT
