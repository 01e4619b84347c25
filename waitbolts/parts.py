"""Stands between which ways lead to and fro, in locks all of whose gaps can be gone back.

Each way can be gone back there, so the stands lie in parts. Two stands are
together where they are so without the highest bolt, and it comes from its
place in the one to that in the other while those below are led about.
"""

from waitbolts.errors import OneWay
from waitbolts.locks import need_lock, need_stand
from waitbolts.words import moves_by_word, words_of


def together(lock, one, other):
    """Whether ways lead to and fro between two stands."""
    return apart(lock, one, other) is None


def size(lock, stand):
    """How many stands are together with one, itself among them."""
    need_lock(lock)
    need_ways_back(lock)
    need_stand(lock, stand)
    count = 1
    for block in blocks_of(lock, stand):
        count *= len(block)
    return count


def parts(lock):
    """The rising list of tuples (size, count): how many parts of each size there are."""
    need_lock(lock)
    need_ways_back(lock)
    words = words_of(lock) + [[]]
    moves = moves_by_word(lock)
    counts = {(tuple(words[0]), 1): 1}
    for k, (many, _) in enumerate(lock):
        above = {}
        for near, stands in counts:
            for block in all_blocks(moves[k], near, many):
                key = tuple(words_near(words[k + 1], near, block)), stands * len(block)
                above[key] = above.get(key, 0) + counts[(near, stands)]
        counts = above
    return sorted([(stands, counts[((), stands)]) for _, stands in counts])


def apart(lock, one, other):
    """None where two stands are together, else (k, block): the first bolt that parts them, the places it comes to."""
    need_lock(lock)
    need_ways_back(lock)
    need_stand(lock, one)
    need_stand(lock, other)
    for k, block in enumerate(blocks_of(lock, one)):
        if other[k] not in block:
            return k, block
    return None


def need_ways_back(lock):
    """Refuse a lock with a gap that has none back with just the same ways."""
    for k, (_, gaps) in enumerate(lock):
        ways_by_gap = {(here, there): ways for here, there, _, ways in gaps}
        for here, there in ways_by_gap:
            if ways_by_gap.get((there, here)) != ways_by_gap[(here, there)]:
                raise OneWay(k)


def blocks_of(lock, stand):
    """A list of the rising lists of places to which each bolt comes from a stand, those below led about."""
    words = words_of(lock) + [[]]
    found = []
    near = words[0]
    for k, moves in enumerate(moves_by_word(lock)):
        block = block_from(moves, near, stand[k])
        found.append(block)
        near = words_near(words[k + 1], near, block)
    return found


def block_from(moves, near, place):
    """The rising list of places to which a bolt comes from one, while those below come to the words near."""
    block = {place: True}
    work = [place]
    while work:
        at = work.pop()
        for word in near:
            for here, there, _ in moves[word]:
                if here == at and there not in block:
                    block[there] = True
                    work.append(there)
    return sorted(block)


def all_blocks(moves, near, many):
    """The list of all blocks of a bolt's places, while those below come to the words near."""
    blocks = [block_from(moves, near, place) for place in range(many)]
    return [block for place, block in enumerate(blocks) if block[0] == place]


def words_near(words, near, block):
    """Those of some words to which the bolts come, the highest one to a block, those below it to the words near."""
    return [word for word in words if word[-1] in block and word[:-1] in near]
