"""What things are, asked of anything that may be handed in."""


def is_whole(thing):
    """Whether a thing is a whole number: an int that is no truth."""
    return isinstance(thing, int) and not isinstance(thing, bool)


def is_whole_in(thing, low, high):
    """Whether a thing is a whole number from low to high."""
    return is_whole(thing) and low <= thing <= high


def is_tuple_of(thing, low, high):
    """Whether a thing is a tuple of low to high things."""
    return isinstance(thing, tuple) and low <= len(thing) <= high


def are_places(thing, manys):
    """Whether a thing is a tuple of one place of each bolt, which have so many places."""
    if not is_tuple_of(thing, len(manys), len(manys)):
        return False
    for place, many in zip(thing, manys):
        # Truths equal 0 and 1, so they are asked for before any comparison.
        if isinstance(place, bool) or not isinstance(place, int) or not 0 <= place < many:
            return False
    return True


def are_wished(thing, manys):
    """Whether a thing is a tuple of one place, or None, of each bolt."""
    if not is_tuple_of(thing, len(manys), len(manys)):
        return False
    return are_places(tuple([0 if place is None else place for place in thing]), manys)
