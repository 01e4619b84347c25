"""Books at work: joined, cut, gone back, mended, and held beside least ways."""

from waitbolts.binding import Binder
from waitbolts.bookparts import MOST_STEPS, need_book, used_parts
from waitbolts.checks import is_whole_in
from waitbolts.errors import Never, NoBack, NoJoin, NoPlace, TooLong
from waitbolts.locks import need_lock, need_wish, stands_of
from waitbolts.notes import NoNotes
from waitbolts.tables import Tower
from waitbolts.writing import written

MOST_AT_WORK = 1000


def joined(lock, book, second):
    """The book of one way and another behind it."""
    need_lock(lock)
    first = need_book(lock, book)
    other = need_book(lock, second)
    begin, end, _, steps = first.way()
    if other.parts[-1][0] != end:
        raise NoJoin()
    need_short(len(book) + len(second), steps + other.counts[-1])
    binder = Binder()
    entries = binder.taken(first.parts, [first.whole()]) + binder.taken(other.parts, [other.whole()])
    return binder.bound(begin, entries)


def need_short(many, steps):
    """Refuse books of too many parts, and what would have too many steps."""
    if many > MOST_AT_WORK or steps > MOST_STEPS:
        raise TooLong()


def part_of(lock, book, t, u):
    """The book of the steps from number t up to u of a book's way."""
    need_lock(lock)
    reader = need_book(lock, book)
    if not is_whole_in(u, 0, reader.counts[-1]) or not is_whole_in(t, 0, u):
        raise NoPlace()
    need_short(len(book), u - t)
    binder = Binder()
    entries = binder.taken(reader.parts, between(reader, t, u))
    return binder.bound(reader.reached(t)[0], entries)


def between(reader, t, u):
    """Entries that do just the steps from number t up to u."""
    found = []
    work = [(0, reader.whole())]
    while work:
        first, entry = work.pop()
        behind = first + reader.steps_of(entry)
        if first == behind or behind <= t or first >= u:
            continue
        if t <= first and behind <= u:
            found.append(entry)
            continue
        inner = []
        for one in reader.parts[entry[1]][2]:
            inner.append((first, one))
            first += reader.steps_of(one)
        work.extend(inner[::-1])
    return found


def back(lock, book):
    """The book of the way that goes each step of a book's way back, the last one first."""
    need_lock(lock)
    reader = need_book(lock, book)
    turned = [None for _ in reader.parts]
    for number in used_parts(reader.parts, [reader.whole()]):
        turned[number] = turned_part(reader, number)
    need_short(len(book), 0)
    binder = Binder()
    return binder.bound(reader.parts[-1][1], binder.taken(turned, [reader.whole()]))


def turned_part(reader, number):
    """The part that goes a part back; refused where a step of it can't be gone back."""
    begin, end, entries = reader.parts[number]
    places = begin
    found = []
    for entry in entries:
        behind = reader.gone(entry, places)[0]
        if entry[0] == "step":
            entry_back = ("step", entry[1], places[entry[1]])
            if reader.gone(entry_back, behind) is None:
                raise NoBack()
            found.append(entry_back)
        else:
            found.append(entry)
        places = behind
    return end, begin, tuple(found[::-1])


def mended(lock, book, wish):
    """The book of the first steps of a book's way that astray tells, and a least way to a wish behind them."""
    need_lock(lock)
    reader = need_book(lock, book)
    need_wish(lock, wish)
    t = last_straight(lock, reader, wish)
    if t is None:
        raise Never()
    need_short(len(book), 0)
    binder = Binder()
    parts = written(lock, (reader.reached(t)[0], wish))
    entries = binder.taken(reader.parts, between(reader, 0, t))
    entries += binder.taken(parts, [("part", len(parts) - 1)])
    return binder.bound(reader.parts[-1][0], entries)


def waste(lock, book, wish):
    """By how much a book's price and the least price from its end to a wish are more than that from its begin."""
    need_lock(lock)
    reader = need_book(lock, book)
    need_wish(lock, wish)
    begin, end, price, _ = reader.way()
    tower = Tower(lock, (wish,), NoNotes())
    rest = tower.price_from(end)
    return None if rest is None else price + rest - tower.price_from(begin)


def astray(lock, book, wish):
    """The greatest t for which the first t steps of a book's way are no waste on the way to a wish."""
    need_lock(lock)
    reader = need_book(lock, book)
    need_wish(lock, wish)
    return last_straight(lock, reader, wish)


def last_straight(lock, reader, wish):
    """What astray tells."""
    tower = Tower(lock, (wish,), NoNotes())
    price = tower.price_from(reader.parts[-1][0])
    if price is None:
        return None
    # Steps that are no waste come to no stand twice.
    low, high = 0, min(reader.counts[-1], stands_of(lock))
    while low < high:
        t = (low + high + 1) // 2
        stand, paid, _ = reader.reached(t)
        rest = tower.price_from(stand)
        if rest is not None and paid + rest == price:
            low = t
        else:
            high = t - 1
    return low


def settled(lock, book):
    """The least t for which the steps from number t on are a least way from the stand there to the book's end."""
    need_lock(lock)
    reader = need_book(lock, book)
    _, end, price, steps = reader.way()
    tower = Tower(lock, (end,), NoNotes())
    # A least way comes to no stand twice.
    low, high = max(0, steps - stands_of(lock)), steps
    while low < high:
        t = (low + high) // 2
        stand, paid, _ = reader.reached(t)
        if price - paid == tower.price_from(stand):
            high = t
        else:
            low = t + 1
    return low
