"""What a thing of any kind is, as far as several points ask it."""


def is_whole(thing):
    # Python counts True and False among the ints; here they are no numbers.
    return isinstance(thing, int) and not isinstance(thing, bool)


def is_within(thing, least, most):
    """Whether thing is a whole number from least to most."""
    return is_whole(thing) and least <= thing <= most


def is_tuple_of(thing, least, most):
    """Whether thing is a tuple of least to most parts."""
    return isinstance(thing, tuple) and least <= len(thing) <= most
