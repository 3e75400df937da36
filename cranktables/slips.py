"""Slips: a wheel that goes on by itself, once, and what column 0 is wrong by then."""

from cranktables.engines import engine_with, modulus_of, numbers_in
from cranktables.errors import NoSlip, NoTurns
from cranktables.standing import choices, stands
from cranktables.turning import MOST_TURNS
from cranktables.wholes import is_within, power


def is_slip(thing, engine):
    """Whether this is a tuple (turn, column, wheel, by) that can be a slip of the engine."""
    if not isinstance(thing, tuple) or len(thing) != 4:
        return False
    turn, k, wheel, by = thing
    if not is_within(turn, 0, MOST_TURNS) or not is_within(k, 0, len(engine.columns()) - 1):
        return False
    return is_within(wheel, 0, engine.wheels() - 1) and is_within(by, 1, engine.base() - 1)


def check_slip(slip, engine):
    """Refuse what is no slip of the engine."""
    if not is_slip(slip, engine):
        raise NoSlip("a slip is a tuple of a turn, a column, a wheel of it, and by how many figures")


def check_turn(m):
    """Refuse what is no turn from 0 to 200."""
    if not is_within(m, 0, MOST_TURNS):
        raise NoTurns("a turn is a whole number from 0 to 200")


def gained(engine, k, wheel, by):
    """What column k's number is more where its wheel slips as the engine stands."""
    base = engine.base()
    beyond = engine.column(k)[-1 - wheel] + by >= base
    # Nobody is warned, so a wheel that goes round has gone back by the rest of its figures.
    return (by - base if beyond else by) * power(base, wheel)


def grown(k, passed):
    """What column 0 has gained so many turns behind the slip for each 1 that column k gained by it."""
    return 0 if passed < 0 else choices(passed + (k - 1) // 2, k)


def slipped(engine, slip, m):
    """The engine as it stands m turns on, with the slip."""
    check_slip(slip, engine)
    check_turn(m)
    turn, k, wheel, by = slip
    if m < turn:
        return stands(engine, m)
    there = stands(engine, turn)
    numbers = numbers_in(there)
    numbers[k] += gained(there, k, wheel, by)
    return stands(engine_with(there, numbers), m - turn)


def wrong_by(engine, slip, m):
    """What column 0's number is more m turns on, with the slip, but for a multiple of M."""
    check_slip(slip, engine)
    check_turn(m)
    turn, k, wheel, by = slip
    gain = gained(stands(engine, turn), k, wheel, by)
    return gain * grown(k, m - turn) % modulus_of(engine)
