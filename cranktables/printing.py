"""Print: fractions as texts of figures, and pages of what an engine reads."""

from cranktables.errors import NoPrint, NoTurns
from cranktables.figures import check_base, read_of
from cranktables.fractions import check_fraction, lowest_terms
from cranktables.rounding import nearest_whole
from cranktables.settings import MOST_PLACES, check_places
from cranktables.standing import shows
from cranktables.texts import SIGNS
from cranktables.turning import check_turns
from cranktables.wholes import is_within, power

MOST_ROWS = 50


def figures_of(number, base):
    """The figures of a whole number from 0 on, without noughts ahead: of 0 none."""
    signs = []
    while number > 0:
        number, figure = divmod(number, base)
        signs.append(SIGNS[figure])
    return "".join(signs[::-1])


def show_units(units, base, places):
    """The text of a whole number of units, so many places behind the point."""
    sign = "-" if units < 0 else ""
    figures = figures_of(abs(units), base).zfill(places + 1)
    if places == 0:
        return sign + figures
    return sign + figures[:-places] + "." + figures[-places:]


def printed(value, base, places):
    """The text of a fraction, rounded to so many places."""
    check_fraction(value)
    check_base(base)
    check_places(places)
    top, bottom = value
    return show_units(nearest_whole(top * power(base, places), bottom), base, places)


def read_units(text, base):
    """The units and the places of a printed text; None where nothing is printed so."""
    ahead, point, behind = text.removeprefix("-").partition(".")
    figures, places = ahead + behind, len(behind)
    if places > MOST_PLACES or not all([sign in SIGNS[:base] for sign in figures]):
        return None
    units = 0
    for sign in figures:
        units = units * base + SIGNS.index(sign)
    if text.startswith("-"):
        units = -units
    # Whatever else is amiss, noughts ahead, no figure beside the point, a sign ahead of 0, is not printed again so.
    return (units, places) if show_units(units, base, places) == text else None


def read_printed(text, base):
    """The fraction that is printed so."""
    check_base(base)
    found = read_units(text, base) if isinstance(text, str) else None
    if found is None:
        raise NoPrint("no fraction is printed so")
    units, places = found
    return lowest_terms(units, power(base, places))


def print_column(column, base, places, shown):
    """What a column with so many places reads, printed with the places shown."""
    return printed(lowest_terms(read_of(column, base), power(base, places)), base, shown)


def check_rows(many):
    """Refuse what is no number of rows of a page."""
    if not is_within(many, 0, MOST_ROWS):
        raise NoTurns("a page has from 0 to 50 rows")


def page(engine, places, shown, first, many):
    """So many rows from the first turn on: the turn, and what the engine reads in column 0, printed."""
    check_places(places)
    check_places(shown)
    check_turns(first)
    check_rows(many)
    return [
        f"{turn} {print_column(shows(engine, turn), engine.base(), places, shown)}"
        for turn in range(first, first + many)
    ]
