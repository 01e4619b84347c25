"""How numbers, places and rows are written, and how what is written is read.

A row is written by its first word and what the words behind it tell. A form
has a sign for each of these: n for a number, m for one that may be never, s
for the places of a stand or a word, w for those of a wish.
"""

MOST_FIGURES = 300


def number_sign(number):
    """A number or a place as it is written, None as never."""
    return "-" if number is None else str(number)


def places_sign(places):
    """A stand, a word or a wish as it is written."""
    return ",".join([number_sign(place) for place in places]) if places else "."


def is_number(word):
    """Whether a word is written right as a number, by figures without noughts ahead."""
    return word == "0" or (word.isdigit() and word[0] != "0")


def is_number_or_never(word):
    """Whether a word is written right as a number or as never."""
    return word == "-" or is_number(word)


def is_written(word, sign):
    """Whether a word is written right as what a sign of a form stands for."""
    if sign == "n":
        return is_number(word)
    if sign == "m":
        return is_number_or_never(word)
    if word == ".":
        return True
    if sign == "s":
        return all([is_number(place) for place in word.split(",")])
    return all([is_number_or_never(place) for place in word.split(",")])


def number_in(word):
    """The number that a word written right tells, or None."""
    # Numbers of more figures are too great for all that they may tell, and stay so where they are cut.
    return None if word == "-" else int(word[:MOST_FIGURES + 1])


def told_by(word, sign):
    """What a word written right tells."""
    if sign in ("n", "m"):
        return number_in(word)
    return () if word == "." else tuple([number_in(place) for place in word.split(",")])


def read_row(row, forms):
    """A list of a row's first word and what the others tell; None where it is none of some forms.

    The forms are a dict from first words to tuples of forms.
    """
    words = row.split(" ")
    for form in forms.get(words[0], ()):
        if len(form) == len(words) - 1:
            if all([is_written(word, sign) for word, sign in zip(words[1:], form)]):
                return words[:1] + [told_by(word, sign) for word, sign in zip(words[1:], form)]
    return None
