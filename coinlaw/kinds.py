"""What a thing of any kind is, as far as several points ask it."""


def is_whole(thing):
    # Python counts True and False among the ints; here they are no numbers.
    return isinstance(thing, int) and not isinstance(thing, bool)


def is_within(thing, least, most):
    """Whether thing is a whole number from least to most."""
    return is_whole(thing) and least <= thing <= most


def is_tuple_of(thing, least, most):
    """Whether thing is a tuple of least to most parts."""
    return isinstance(thing, tuple) and least <= len(thing) <= most


def is_rising(things):
    """Whether each is greater than the one ahead; all of them can be compared."""
    return all([one < other for one, other in zip(things, things[1:])])


def is_same(thing, other):
    """Whether thing is just other, which is made of tuples, whole numbers and texts; True is not 1."""
    if isinstance(other, tuple):
        return is_tuple_of(thing, len(other), len(other)) and all([is_same(one, two) for one, two in zip(thing, other)])
    return thing == other and not isinstance(thing, bool)


def is_word(thing):
    return is_letters(thing, 1, 8)


def is_code(thing):
    return is_letters(thing, 3, 3)


def is_letters(thing, least, most):
    """Whether thing is a text of least to most small letters."""
    if not isinstance(thing, str) or not least <= len(thing) <= most:
        return False
    return all(["a" <= sign <= "z" for sign in thing])


def are_figures(text):
    """Whether a text is one figure and more, and nothing else."""
    # Python's own question would take figures of other scripts, too.
    return text != "" and all(["0" <= sign <= "9" for sign in text])
