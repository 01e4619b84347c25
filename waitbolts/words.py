"""The words that bolts ask of the bolts below them."""


def words_of(lock):
    """A list of lists: the k-th has the ways of the bolts numbered k and more, cut to their first k places."""
    rows = []
    above = []
    for k in reversed(range(len(lock))):
        found = {}
        for word in above:
            found[word[:k]] = True
        for gap in lock[k][1]:
            for way in gap[3]:
                found[way] = True
        above = list(found)
        rows.append(above)
    return rows[::-1]


def moves_by_word(lock):
    """A list of dicts: the k-th has, for each word of the first k bolts, bolt k's moves (from, to, price) there."""
    rows = []
    for words, bolt in zip(words_of(lock), lock):
        moves = {word: [] for word in words}
        for here, there, price, ways in bolt[1]:
            for way in ways:
                moves[way].append((here, there, price))
        rows.append(moves)
    return rows
