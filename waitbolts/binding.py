"""Books that are put together from entries of others."""

from waitbolts.bookparts import MOST_ENTRIES, used_parts


class Binder:
    """The parts of a book that is put together; a part that is put twice is kept once."""

    def __init__(self):
        self.parts = []
        self.numbers = {}

    def put(self, begin, end, entries):
        """The entry that does a part."""
        part = (begin, end, tuple(entries))
        if part not in self.numbers:
            self.numbers[part] = len(self.parts)
            self.parts.append(part)
        return ("part", self.numbers[part])

    def taken(self, parts, entries):
        """Entries of other parts, told anew, with all parts that they use put here."""
        found = {}
        for number in used_parts(parts, entries):
            begin, end, inner = parts[number]
            found[number] = self.put(begin, end, told_anew(inner, found))
        return told_anew(entries, found)

    def behind(self, stand, entries):
        """The stand behind entries that are done at a stand."""
        for entry in entries:
            if entry[0] == "step":
                _, k, to = entry
                stand = stand[:k] + (to,) + stand[k + 1:]
            else:
                end = self.parts[entry[1]][1]
                stand = end + stand[len(end):]
        return stand

    def bound(self, begin, entries):
        """The book of the way that does these entries from its begin on."""
        while len(entries) > MOST_ENTRIES:
            entries = self.grouped(begin, entries)
        if len(entries) == 1 and entries[0] == ("part", len(self.parts) - 1):
            if len(self.parts[-1][0]) == len(begin):
                return tuple(self.parts)
        return tuple(self.parts + [(begin, self.behind(begin, entries), tuple(entries))])

    def grouped(self, stand, entries):
        """The entries of parts that do so many entries each as a part may have."""
        found = []
        for first in range(0, len(entries), MOST_ENTRIES):
            group = entries[first:first + MOST_ENTRIES]
            behind = self.behind(stand, group)
            found.append(self.put(stand, behind, group))
            stand = behind
        return found


def told_anew(entries, found):
    """Entries, each part by the entry that stands for it."""
    return [found[entry[1]] if entry[0] == "part" else ("step", entry[1], entry[2]) for entry in entries]
