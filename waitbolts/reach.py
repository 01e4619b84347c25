"""From how many stands a wish can be come to, to how many from a wish, and steps behind which it is lost."""

from waitbolts.changes import turned
from waitbolts.locks import need_lock, need_stand, need_wish, steps_at
from waitbolts.words import moves_by_word, words_of


class Floor:
    """One bolt upon those below it: what can be come to from their stands.

    What can be come to is a number with a bit for each end: a word that bolts
    above ask for, or the wish, cut, whose bit is behind those of the words.
    An end is a tuple (number of the end below, place or None), a move is one
    (number of the word below, from, to); below has what can be come to from
    each word below.
    """

    def __init__(self, below, moves, ends):
        self.below = below
        self.moves = moves
        self.ends = ends
        self.after = [self.led(number) for number in range(len(moves))]

    def standing(self, reach, place):
        """What can be come to without a step of this bolt, where those below can come to reach."""
        found = 0
        for number, (below, last) in enumerate(self.ends):
            if last in (None, place) and reach >> below & 1:
                found |= 1 << number
        return found

    def firsts(self, reach, place):
        """The numbers of the moves that may be the first ones."""
        return [
            number for number, (word, here, _) in enumerate(self.moves) if here == place and reach >> word & 1
        ]

    def led(self, number):
        """What can be come to from behind a move."""
        found = 0
        seen = {number: True}
        work = [number]
        while work:
            word, _, there = self.moves[work.pop()]
            found |= self.standing(self.below[word], there)
            for other in self.firsts(self.below[word], there):
                if other not in seen:
                    seen[other] = True
                    work.append(other)
        return found

    def reach_of(self, reach, place):
        """What can be come to, where those below can come to reach."""
        found = self.standing(reach, place)
        for number in self.firsts(reach, place):
            found |= self.after[number]
        return found


class Reach:
    """From which stands of a lock a way leads to a wish, told bolt by bolt."""

    def __init__(self, lock, wish):
        words = words_of(lock) + [[]]
        self.manys = [bolt[0] for bolt in lock]
        self.floors = []
        # Of no bolts there is one stand, which is each word and meets each wish.
        self.ground = (1 << len(words[0]) + 1) - 1
        below = [self.ground for _ in words[0]]
        for k, (_, gaps) in enumerate(lock):
            numbers = {word: number for number, word in enumerate(words[k])}
            moves = [(numbers[way], here, there) for here, there, _, ways in gaps for way in ways]
            stops = [(numbers[word[:k]], word[k]) for word in words[k + 1]]
            floor = Floor(below, moves, stops + [(len(words[k]), wish[k])])
            self.floors.append(floor)
            below = [floor.reach_of(below[word], place) for word, place in stops]

    def leads(self, stand):
        """Whether a way leads from a stand to the wish."""
        reach = self.ground
        for floor, place in zip(self.floors, stand):
            reach = floor.reach_of(reach, place)
        return reach == 1

    def stand_count(self):
        """From how many stands a way leads to the wish."""
        counts = {self.ground: 1}
        for floor, many in zip(self.floors, self.manys):
            above = {}
            for reach in counts:
                for place in range(many):
                    behind = floor.reach_of(reach, place)
                    above[behind] = above.get(behind, 0) + counts[reach]
            counts = above
        return counts.get(1, 0)


def coming(lock, wish):
    """From how many stands a way leads to one that meets a wish."""
    need_lock(lock)
    need_wish(lock, wish)
    return Reach(lock, wish).stand_count()


def come_to(lock, wish):
    """To how many stands a way leads from some that meets a wish."""
    need_lock(lock)
    need_wish(lock, wish)
    return Reach(turned(lock), wish).stand_count()


def lost(lock, stand, wish):
    """The rising list of the steps (k, to) behind which no way leads to a wish any more, though one does ahead."""
    need_lock(lock)
    need_stand(lock, stand)
    need_wish(lock, wish)
    reach = Reach(lock, wish)
    if not reach.leads(stand):
        return []
    return [
        (k, to) for k, to, _ in steps_at(moves_by_word(lock), stand)
        if not reach.leads(stand[:k] + (to,) + stand[k + 1:])
    ]
