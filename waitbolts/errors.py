"""The refusals of the program, each with a class of its own."""


class BoltError(ValueError):
    """Something that is handed in is refused."""


class NoLock(BoltError):
    """This is no lock; its field fault is what fault_of tells."""

    def __init__(self, fault):
        self.fault = fault


class NoStand(BoltError):
    """This is no stand of the lock."""


class NoWish(BoltError):
    """This is no wish of the lock."""


class NoWishes(BoltError):
    """This is no row of wishes of the lock."""


class NoStep(BoltError):
    """A step is none or can't be done; its field nth is its number, from 0."""

    def __init__(self, nth):
        self.nth = nth


class NoPrice(BoltError):
    """This is no price."""


class NoMost(BoltError):
    """This is no greatest count to tell."""


class NoBook(BoltError):
    """This is no book; its field part is the number, from 0, of the first part that is none."""

    def __init__(self, part):
        self.part = part


class NoPlace(BoltError):
    """A way has no such place."""


class NoJoin(BoltError):
    """The second way doesn't begin where the first one ends."""


class NoBack(BoltError):
    """A step of the way can't be gone back."""


class NoPaper(BoltError):
    """This is no paper."""


class NoBolt(BoltError):
    """This is no bolt of the lock."""


class NoGap(BoltError):
    """This is no gap of the bolt."""


class NoWay(BoltError):
    """This is no way of the gap."""


class NoNames(BoltError):
    """These are no names for the bolt's places."""


class NoPlaces(BoltError):
    """This is no list of how many places bolts have."""


class NoCount(BoltError):
    """This is no count that a lock is made for."""


class NoDeed(BoltError):
    """This is no deed."""


class NoText(BoltError):
    """A text isn't written right; its field row is the number, from 0, of the first wrong row."""

    def __init__(self, row):
        self.row = row


class NoRow(BoltError):
    """This is no row that a desk is told."""


class TooWide(BoltError):
    """There is more of it than is told."""


class TooLong(BoltError):
    """The book is too long."""


class Taken(BoltError):
    """It is there already."""


class Unlike(BoltError):
    """The bolts of two locks haven't as many places each."""


class OneWay(BoltError):
    """A gap has none back; its field bolt is the first bolt with such a gap."""

    def __init__(self, bolt):
        self.bolt = bolt


class Never(BoltError):
    """No way leads there."""


class Poor(BoltError):
    """There are too few coins; its field price is the price of the steps."""

    def __init__(self, price):
        self.price = price


class NothingDone(LookupError):
    """There is nothing to take back or to do again."""


class NotYet(RuntimeError):
    """The desk has no lock, or no keeper, yet."""
