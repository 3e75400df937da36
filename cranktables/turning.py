"""Turns of the crank, half by half, forward and back."""

from cranktables.engines import engine_with, numbers_in
from cranktables.errors import NoTurns
from cranktables.wholes import is_within

MOST_TURNS = 200
FIRST_ODD = 1
FIRST_EVEN = 2
ON = 1
BACK = -1


def half(numbers, start, way):
    """The numbers with every second one, from the start on, added to (taken from) the one ahead."""
    moved = list(numbers)
    for k in range(start, len(numbers), 2):
        moved[k - 1] += way * numbers[k]
    return moved


def turn_on(numbers):
    """The numbers behind one turn."""
    return half(half(numbers, FIRST_ODD, ON), FIRST_EVEN, ON)


def turn_back(numbers):
    """The numbers behind one turn back."""
    return half(half(numbers, FIRST_EVEN, BACK), FIRST_ODD, BACK)


def first_half(engine):
    """The engine behind the first half of a turn."""
    return engine_with(engine, half(numbers_in(engine), FIRST_ODD, ON))


def second_half(engine):
    """The engine behind the second half of a turn."""
    return engine_with(engine, half(numbers_in(engine), FIRST_EVEN, ON))


def crank(engine):
    """The engine behind a turn."""
    return engine_with(engine, turn_on(numbers_in(engine)))


def back(engine):
    """The engine behind a turn back."""
    return engine_with(engine, turn_back(numbers_in(engine)))


def check_turns(m):
    """Refuse what is no number of turns, on or back."""
    if not is_within(m, -MOST_TURNS, MOST_TURNS):
        raise NoTurns("turns are a whole number from -200 to 200")


def turned(engine, m):
    """The engine behind m turns, or as many back as m is below 0."""
    check_turns(m)
    numbers = numbers_in(engine)
    # Multiples of M change a sum by such a multiple only, so they are left in until the end.
    for turn in range(abs(m)):
        numbers = turn_on(numbers) if m > 0 else turn_back(numbers)
    return engine_with(engine, numbers)
