"""Checks of column 0: at which of them a slip is seen, which slips none shows, and which are suspect."""

from cranktables.engines import modulus_of
from cranktables.errors import NoChecks, NoShown, TooMany
from cranktables.figures import is_column, number_of
from cranktables.slips import check_slip, check_turn, gained, grown
from cranktables.standing import shows, stands
from cranktables.turning import MOST_TURNS
from cranktables.wholes import are_rising

MOST_CHECKS = 40
MOST_SHOWN = 12
LAST_SHOWN = 20
MOST_BLIND = 200
MOST_SUSPECTS = 100


def check_checks(checks):
    """Refuse what is no rising list of none to forty turns."""
    if not isinstance(checks, list) or len(checks) > MOST_CHECKS or not are_rising(checks, 0, MOST_TURNS):
        raise NoChecks("checks are a rising list of at most 40 turns from 0 to 200")


def check_many(engine, most):
    """Refuse an engine with more slips behind a turn than this."""
    if len(engine.columns()) * engine.wheels() * (engine.base() - 1) > most:
        raise TooMany("the engine has too many slips to go through")


def slips_at(engine):
    """All slips of the engine as it stands, in order: (column, wheel, by, what the column gains)."""
    return [
        (k, wheel, by, gained(engine, k, wheel, by))
        for k in range(len(engine.columns()))
        for wheel in range(engine.wheels())
        for by in range(1, engine.base())
    ]


def first_wrong(k, gain, passed, modulus):
    """The place of the first of these numbers of turns behind the slip at which column 0 is wrong, or None."""
    for place, turns in enumerate(passed):
        if gain * grown(k, turns) % modulus != 0:
            return place
    return None


def seen_at(engine, slip, checks):
    """The first check that shows the slip, or None."""
    check_slip(slip, engine)
    check_checks(checks)
    turn, k, wheel, by = slip
    gain = gained(stands(engine, turn), k, wheel, by)
    place = first_wrong(k, gain, [check - turn for check in checks], modulus_of(engine))
    return None if place is None else checks[place]


def blind(engine, turn, checks):
    """All (column, wheel, by), in order, whose slip behind this turn no check shows."""
    check_turn(turn)
    check_checks(checks)
    check_many(engine, MOST_BLIND)
    passed, modulus = [check - turn for check in checks], modulus_of(engine)
    return [
        (k, wheel, by)
        for k, wheel, by, gain in slips_at(stands(engine, turn))
        if first_wrong(k, gain, passed, modulus) is None
    ]


def is_showing(thing, engine):
    """Whether this is a tuple of any turn and a column that the engine could show."""
    if not isinstance(thing, tuple) or len(thing) != 2:
        return False
    return is_column(thing[1], engine.base()) and len(thing[1]) == engine.wheels()


def check_shown(shown, engine):
    """Refuse what is no list of what column 0 showed."""
    if not isinstance(shown, list) or len(shown) > MOST_SHOWN:
        raise NoShown("what was shown is a list of at most 12")
    if not all([is_showing(part, engine) for part in shown]):
        raise NoShown("what was shown is a turn and a column of the engine's base and wheels each time")
    if not are_rising([turn for turn, column in shown], 0, LAST_SHOWN):
        raise NoShown("what was shown goes by rising turns from 0 to 20")


def errors_shown(engine, shown):
    """What column 0 was wrong by, as (turn, number) each."""
    base, modulus = engine.base(), modulus_of(engine)
    return [
        (turn, (number_of(column, base) - number_of(shows(engine, turn), base)) % modulus)
        for turn, column in shown
    ]


def would_show(k, gain, turn, wrongs, modulus):
    """Whether column 0 is wrong by just this with a slip behind the turn by which column k gains so much."""
    return all([(gain * grown(k, m - turn) - wrong) % modulus == 0 for m, wrong in wrongs])


def suspects(engine, shown):
    """All slips, in order, with which column 0 would be as shown; None where it is as without one."""
    check_shown(shown, engine)
    check_many(engine, MOST_SUSPECTS)
    wrongs, modulus = errors_shown(engine, shown), modulus_of(engine)
    if all([wrong == 0 for turn, wrong in wrongs]):
        return None
    return [
        (turn, k, wheel, by)
        for turn in range(shown[-1][0] + 1)
        for k, wheel, by, gain in slips_at(stands(engine, turn))
        if would_show(k, gain, turn, wrongs, modulus)
    ]
