"""Whole numbers: what counts as one, and powers of them."""


def is_whole(thing):
    """Whether this is a whole number; True and False are none."""
    return isinstance(thing, int) and not isinstance(thing, bool)


def is_within(thing, least, most):
    """Whether this is a whole number from least to most, both counted."""
    return is_whole(thing) and least <= thing <= most


def power(number, many):
    """The number times itself, so many times; 1 where that is 0."""
    product = 1
    for factor in range(many):
        product *= number
    return product
