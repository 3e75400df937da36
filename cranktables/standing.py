"""How an engine stands any number of turns on, told without turning it."""

from cranktables.engines import engine_with, numbers_in
from cranktables.errors import NoTurns
from cranktables.figures import read_of
from cranktables.wholes import is_of_thirty_figures, is_within

MOST_READINGS = 200


def choices(n, j):
    """C(n, j): n times n less 1 and so on, j numbers, divided by j times j less 1 .. times 1."""
    product = 1
    for k in range(j):
        # What is here is C(n, k), times n less k it can be divided by k and 1.
        product = product * (n - k) // (k + 1)
    return product


def column_sum(numbers, k, m):
    """What column k has m turns on, but for a multiple of M."""
    return sum([
        numbers[j] * choices(m - k // 2 + (j - 1) // 2, j - k)
        for j in range(k, len(numbers))
    ])


def stands(engine, m):
    """The engine as it stands m turns on."""
    if not is_of_thirty_figures(m):
        raise NoTurns("turns are a whole number of at most thirty figures")
    numbers = numbers_in(engine)
    return engine_with(engine, [column_sum(numbers, k, m) for k in range(len(numbers))])


def shows(engine, m):
    """The column that the engine shows m turns on."""
    return stands(engine, m).column(0)


def readings(engine, many):
    """What the engine reads in column 0 at 0, 1, 2 .. turns, as many as asked."""
    if not is_within(many, 0, MOST_READINGS):
        raise NoTurns("readings are from 0 to 200")
    return [read_of(shows(engine, m), engine.base()) for m in range(many)]
