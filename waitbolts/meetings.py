"""Where the ways of books meet wishes.

What stands otherwise than a wish wants it is written as a number: its bit k
is set where bolt k does. So a part's own stands are told apart from the bolts
above them, which stay while the part is gone.
"""


class Meetings:
    """How often the stands behind the steps of each part meet a wish, so far as the part's bolts go."""

    def __init__(self, parts, wish):
        self.parts = parts
        self.wish = wish
        self.times = []
        self.ends = []
        for begin, _, entries in parts:
            odd = odd_bits(begin, wish)
            many = 0
            for entry in entries:
                odd, more = self.gone(entry, odd)
                many += more
            self.times.append(many)
            self.ends.append(odd)

    def gone(self, entry, odd):
        """A tuple of the bits behind an entry, and how often the wish is met behind its steps."""
        if entry[0] == "step":
            odd = odd_behind(self.wish, entry, odd)
            return odd, 0 if odd else 1
        many = len(self.parts[entry[1]][0])
        above = odd >> many << many
        return above | self.ends[entry[1]], 0 if above else self.times[entry[1]]

    def entered(self, number, odd, left):
        """The entry of a part in which the wish is met once more after so many times.

        A tuple (entry, bits at it, the entries ahead of it, how many times are left).
        """
        entries = self.parts[number][2]
        for nth, entry in enumerate(entries):
            behind, many = self.gone(entry, odd)
            if left < many:
                return entry, odd, entries[:nth], left
            odd, left = behind, left - many
        return None


class Layers:
    """How many of some wishes, that are to be met in their order, are met behind each part.

    That is told for each layer, the count of those met ahead of the part, so
    far as the part's bolts go.
    """

    def __init__(self, parts, wishes):
        self.parts = parts
        self.wishes = wishes
        self.met = []
        self.ends = []
        for begin, _, entries in parts:
            odds = [odd_bits(begin, wish) for wish in wishes]
            met = [met_from(layer, odds, len(wishes)) for layer in range(len(wishes) + 1)]
            for entry in entries:
                odds, met = self.gone(entry, odds, met)
            self.met.append(met)
            self.ends.append(odds)

    def gone(self, entry, odds, met):
        """A tuple of the bits of each wish behind an entry, and of how many wishes are met behind it."""
        if entry[0] == "step":
            odds = [odd_behind(wish, entry, odd) for wish, odd in zip(self.wishes, odds)]
            return odds, [met_from(layer, odds, len(odds)) for layer in met]
        many = len(self.parts[entry[1]][0])
        # The bolts above stay, so only wishes that they meet can be met in the part.
        above = [odd >> many << many for odd in odds]
        most = self.met[entry[1]]
        met = [met_from(layer, above, most[layer]) for layer in met]
        return [bits | odd for bits, odd in zip(above, self.ends[entry[1]])], met


def odd_bits(places, wish):
    """The bits of the bolts that stand otherwise than a wish wants them."""
    odd = 0
    for k, place in enumerate(places):
        if wish[k] not in (None, place):
            odd |= 1 << k
    return odd


def odd_behind(wish, entry, odd):
    """The bits behind an entry that is a step."""
    _, k, to = entry
    bit = 1 << k
    return odd | bit if wish[k] not in (None, to) else (odd | bit) ^ bit


def met_from(layer, odds, most):
    """How many wishes, but at most so many, are met where those from a layer on are met side by side."""
    while layer < most and not odds[layer]:
        layer += 1
    return layer
