"""What stands in books: their steps, stands and prices, and where they meet wishes."""

from waitbolts.bookparts import need_book
from waitbolts.checks import is_whole_in
from waitbolts.errors import NoPlace
from waitbolts.locks import need_lock, need_wish
from waitbolts.meetings import Meetings, odd_bits


def step_at(lock, book, t):
    """The step number t of a book's way, from 0 on."""
    need_lock(lock)
    reader = need_book(lock, book)
    if not is_whole_in(t, 0, reader.counts[-1] - 1):
        raise NoPlace()
    return reader.reached(t)[2]


def stand_at(lock, book, t):
    """The stand behind the first t steps of a book's way."""
    need_lock(lock)
    reader = need_book(lock, book)
    need_place(reader, t)
    return reader.reached(t)[0]


def price_at(lock, book, t):
    """The price of the first t steps of a book's way."""
    need_lock(lock)
    reader = need_book(lock, book)
    need_place(reader, t)
    return reader.reached(t)[1]


def need_place(reader, thing):
    """Refuse what is no whole number from 0 to the count of a way's steps."""
    if not is_whole_in(thing, 0, reader.counts[-1]):
        raise NoPlace()


def moves(lock, book):
    """A list of how many steps of a book's way each bolt does."""
    need_lock(lock)
    reader = need_book(lock, book)
    found = [0 for _ in lock]
    gone = [0 for _ in reader.parts]
    gone[-1] = 1
    for number in reversed(range(len(gone))):
        # A part without steps may be gone more often than a number can be written for.
        if gone[number] == 0 or reader.counts[number] == 0:
            continue
        for entry in reader.parts[number][2]:
            if entry[0] == "step":
                found[entry[1]] += gone[number]
            else:
                gone[entry[1]] += gone[number]
    return found


def times(lock, book, wish):
    """How many stands of a book's way, its first and that behind each step, meet a wish."""
    need_lock(lock)
    reader = need_book(lock, book)
    need_wish(lock, wish)
    return times_in(reader, Meetings(reader.parts, wish))


def times_in(reader, meetings):
    """How many stands of a book's way meet a wish."""
    odd = odd_bits(reader.parts[-1][0], meetings.wish)
    return meetings.times[-1] + (0 if odd else 1)


def time_at(lock, book, wish, n):
    """The number of steps behind which a book's way meets a wish for the n-th time, from 0 on."""
    need_lock(lock)
    reader = need_book(lock, book)
    need_wish(lock, wish)
    meetings = Meetings(reader.parts, wish)
    if not is_whole_in(n, 0, times_in(reader, meetings) - 1):
        raise NoPlace()
    odd = odd_bits(reader.parts[-1][0], wish)
    left = n if odd else n - 1
    if left < 0:
        return 0
    steps = 0
    entry = reader.whole()
    while entry[0] == "part":
        entry, odd, ahead, left = meetings.entered(entry[1], odd, left)
        steps += sum([reader.steps_of(one) for one in ahead])
    return steps + 1
