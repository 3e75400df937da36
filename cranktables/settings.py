"""Settings: engines that show the worths of rules, and rules of engines."""

from cranktables.engines import MOST_COLUMNS, engine_of
from cranktables.errors import NoPlaces, NotWhole, NoValues
from cranktables.figures import check_base, check_wheels, read_of
from cranktables.rules import check_rule, check_start, first_differences, rule_through, worth_at
from cranktables.standing import choices, column_sum
from cranktables.wholes import is_whole, is_within, power

MOST_PLACES = 70


def check_places(places):
    """Refuse what is no number of places."""
    if not is_within(places, 0, MOST_PLACES):
        raise NoPlaces("places are a whole number from 0 to 70")


def numbers_showing(values):
    """The numbers of the columns that show these values at 0, 1, 2 .. turns."""
    heads = first_differences(values)
    # Column k has the difference number k at 0 less k // 2, which those at 0 tell by sums like those of turns.
    return [
        sum([heads[j] * choices(-(k // 2), j - k) for j in range(k, len(heads))])
        for k in range(len(heads))
    ]


def whole_worths(rule, unit, start):
    """The first worths from the start on, as many as the rule has fractions, in units."""
    values = []
    for x in range(start, start + len(rule)):
        top, bottom = worth_at(rule, x)
        if top * unit % bottom != 0:
            raise NotWhole("a worth is not whole with so many places", x)
        values.append(top * unit // bottom)
    return values


def setting(rule, base, wheels, places, start):
    """The engine that shows the worth of the rule at the start and m, m turns on."""
    check_rule(rule)
    check_base(base)
    check_wheels(wheels)
    check_places(places)
    check_start(start)
    values = whole_worths(rule, power(base, places), start)
    return engine_of(base, wheels, numbers_showing(values))


def fewest_columns(engine):
    """The least number of columns with which an engine shows the same."""
    columns = engine.columns()
    while len(columns) > 1 and not any(columns[-1]):
        columns.pop()
    return len(columns)


def rule_of(engine, places):
    """The rule of which the engine, without noughts at its end, is the setting from 0 on."""
    check_places(places)
    base, many = engine.base(), fewest_columns(engine)
    reads = [read_of(column, base) for column in engine.columns()[:many]]
    values = [column_sum(reads, 0, m) for m in range(many)]
    return rule_through(list(range(many)), values, power(base, places))


def are_values(thing):
    """Whether this is a list of one to eight whole numbers."""
    if not isinstance(thing, list) or not 1 <= len(thing) <= MOST_COLUMNS:
        return False
    return all([is_whole(value) for value in thing])


def by_values(base, wheels, values):
    """The engine with as many columns that shows these values at 0, 1, 2 .. turns."""
    check_base(base)
    check_wheels(wheels)
    if not are_values(values):
        raise NoValues("an engine shows a list of 1 to 8 whole numbers")
    return engine_of(base, wheels, numbers_showing(values))
