"""A keeper's state that is reckoned by plain walks, beside which keepers are tested."""

from tests import plain
from tests.bookmakers import flat
from waitbolts import changes, errors

COUNTS = {
    "earn": 2, "step": 3, "go": 3, "rust": 2, "free": 2, "put_gap": 5, "out_gap": 4, "put_way": 5, "out_way": 5,
    "priced": 5,
}


class Plain:
    """A keeper as the document tells it, which goes each step for itself."""

    def __init__(self, lock, stand, home):
        self.home = home
        self.now = {"lock": lock, "rust": [], "stand": stand, "coins": 0, "paid": 0, "gone": 0, "deeds": []}
        self.past = []
        self.ahead = []

    def free(self, now=None):
        """The lock without the gaps of rusted bolts."""
        now = now or self.now
        return tuple((many, () if k in now["rust"] else gaps) for k, (many, gaps) in enumerate(now["lock"]))

    def home_price(self, now=None):
        """The least price home, or None."""
        now = now or self.now
        return plain.least(self.free(now), (now["stand"], self.home))

    def run(self, deeds, way_to, single=False):
        """Do all deeds or none; a way is told by a function of a lock, a stand and wishes."""
        now = dict(self.now)
        for deed in deeds:
            now = self.behind(now, deed, way_to)
        self.past.append(self.now)
        self.ahead = []
        self.now = dict(now, deeds=self.now["deeds"] + [deeds[0] if single else list(deeds)])

    def behind(self, now, deed, way_to):
        """The state behind a deed."""
        if not isinstance(deed, tuple) or not deed or COUNTS.get(deed[0]) != len(deed):
            raise errors.NoDeed()
        word, things = deed[0], deed[1:]
        price = 0
        if word == "earn":
            if type(things[0]) is not int or not 1 <= things[0] <= 10 ** 40:
                raise errors.NoPrice()
            now = dict(now, coins=now["coins"] + things[0])
        elif word == "step":
            now, price = self.gone(now, [things], errors.NoStep(0))
        elif word == "go":
            book = way_to(now["lock"], self.free(now), now["stand"], things[0])
            if book is None:
                raise errors.Never()
            steps = flat(book)
            count = len(steps) if things[1] is None else things[1]
            if type(count) is not int or not 0 <= count <= len(steps):
                raise errors.NoPlace()
            now, price = self.gone(now, steps[:count], None)
        elif word in ("rust", "free"):
            if type(things[0]) is not int or not 0 <= things[0] < len(now["lock"]):
                raise errors.NoBolt()
            if (things[0] in now["rust"]) == (word == "rust"):
                raise errors.Taken()
            some = [k for k in now["rust"] if k != things[0]]
            now = dict(now, rust=sorted(some + [things[0]] * (word == "rust")))
        else:
            now = dict(now, lock=getattr(changes, word)(now["lock"], *things))
        if self.home_price(now) is None:
            raise errors.Never()
        if price > now["coins"]:
            raise errors.Poor(price)
        return dict(now, coins=now["coins"] - price, paid=now["paid"] + price)

    def gone(self, now, steps, refusal):
        """The state behind some steps, and their price."""
        price = 0
        stand = now["stand"]
        for step in steps:
            costs = [cost for k, to, cost in plain.steps(self.free(now), stand) if (k, to) == step]
            if not costs or any(type(number) is not int for number in step):
                raise refusal
            stand = plain.behind(stand, *step)
            price += costs[0]
        return dict(now, stand=stand, gone=now["gone"] + len(steps)), price

    def undo(self):
        """Take the last one back."""
        if not self.past:
            raise errors.NothingDone()
        self.ahead.append(self.now)
        self.now = self.past.pop()

    def again(self):
        """Do the one taken back last again."""
        if not self.ahead:
            raise errors.NothingDone()
        self.past.append(self.now)
        self.now = self.ahead.pop()

    def copied(self):
        """One that goes its own way."""
        twin = Plain(None, None, self.home)
        twin.now, twin.past, twin.ahead = self.now, list(self.past), list(self.ahead)
        return twin


def told(keeper):
    """All that a keeper tells of itself."""
    return {
        "lock": keeper.lock_now(), "rust": keeper.rust_now(), "stand": keeper.stand_now(), "coins": keeper.coins_now(),
        "paid": keeper.paid_now(), "gone": keeper.gone_now(), "deeds": keeper.deeds_now(),
        "free": keeper.free_lock(), "home": keeper.home_now(),
    }


def wanted(model):
    """What a keeper ought to tell."""
    return dict(model.now, free=model.free(), home=model.home_price())
