"""Whole numbers: what counts as one, rising lists of them, and powers."""

MOST_OF_THIRTY_FIGURES = 10 ** 30 - 1


def is_whole(thing):
    """Whether this is a whole number; True and False are none."""
    return isinstance(thing, int) and not isinstance(thing, bool)


def is_within(thing, least, most):
    """Whether this is a whole number from least to most, both counted."""
    return is_whole(thing) and least <= thing <= most


def is_of_thirty_figures(thing):
    """Whether this is a whole number of at most thirty figures, above 0 or below."""
    return is_within(thing, -MOST_OF_THIRTY_FIGURES, MOST_OF_THIRTY_FIGURES)


def are_rising(numbers, least, most):
    """Whether these are whole numbers from least to most, each greater than the one ahead of it."""
    if not all([is_within(number, least, most) for number in numbers]):
        return False
    return all([numbers[k - 1] < numbers[k] for k in range(1, len(numbers))])


def power(number, many):
    """The number times itself, so many times; 1 where that is 0."""
    product = 1
    for factor in range(many):
        product *= number
    return product
