"""Keepers, who stand at a lock, go great ways, and can always come home."""

from waitbolts.deeds import Home, State, done, way_book
from waitbolts.errors import Never, NoDeed, NothingDone
from waitbolts.locks import need_lock, need_stand, need_wish


class Keeper:
    """One who stands at a lock.

    Past has tuples (state ahead of it, deed) of the deeds and runs that
    stand, ahead has tuples (state behind it, deed) of those taken back, the
    one taken back last at its end. A run is kept as a list.
    """

    def __init__(self, lock, stand, home):
        need_lock(lock)
        need_stand(lock, stand)
        need_wish(lock, home)
        self.home = Home(home)
        self.state = State(lock, (), stand, 0, 0, 0)
        self.past = []
        self.ahead = []
        if self.home.price_from(self.state) is None:
            raise Never()

    def do(self, deed):
        """Do a deed."""
        self.stand_behind(done(self.home, self.state, deed), deed)

    def run(self, deeds):
        """Do all deeds of a list, or none."""
        if not isinstance(deeds, list):
            raise NoDeed()
        state = self.state
        for deed in deeds:
            state = done(self.home, state, deed)
        self.stand_behind(state, list(deeds))

    def stand_behind(self, state, deed):
        """Stand as a deed or a run leaves it, which lets all that was taken back go."""
        self.past.append((self.state, deed))
        self.ahead = []
        self.state = state

    def undo(self):
        """Take the last deed or run back."""
        if not self.past:
            raise NothingDone()
        state, deed = self.past.pop()
        self.ahead.append((self.state, deed))
        self.state = state

    def again(self):
        """Do the deed or run again that was taken back last."""
        if not self.ahead:
            raise NothingDone()
        state, deed = self.ahead.pop()
        self.past.append((self.state, deed))
        self.state = state

    def lock_now(self):
        """Its lock."""
        return self.state.lock

    def free_lock(self):
        """Its lock without the gaps of rusted bolts."""
        return self.home.free(self.state).lock

    def way_to(self, wishes):
        """The book of a least way that begins at its stand and meets one to three wishes; None where none does."""
        return way_book(self.free_lock(), self.state.stand, wishes)

    def stand_now(self):
        """Its stand."""
        return self.state.stand

    def coins_now(self):
        """How many coins it has."""
        return self.state.coins

    def paid_now(self):
        """All that it paid."""
        return self.state.paid

    def gone_now(self):
        """How many steps it went."""
        return self.state.steps

    def rust_now(self):
        """The rising list of its rusted bolts."""
        return list(self.state.rust)

    def home_now(self):
        """The least price home."""
        return self.home.price_from(self.state)

    def deeds_now(self):
        """The list of the deeds that stand, runs as lists."""
        return [list(deed) if isinstance(deed, list) else deed for _, deed in self.past]

    def copied(self):
        """A keeper that stands alike, with its past and what was taken back, and goes its own way."""
        twin = Keeper(self.state.lock, self.state.stand, self.home.wish)
        twin.state = self.state
        twin.past = list(self.past)
        twin.ahead = list(self.ahead)
        return twin
