"""A desk: it keeps an engine and its places, and answers rows of text."""

from cranktables.engines import Engine
from cranktables.errors import NoRow
from cranktables.figures import read_of
from cranktables.fractions import is_fraction
from cranktables.printing import print_column, read_units
from cranktables.rules import MOST_FRACTIONS
from cranktables.settings import setting
from cranktables.slips import slipped
from cranktables.texts import show_engine, show_figures
from cranktables.turning import turned
from cranktables.wholes import is_within

DECIMAL = 10
MOST_FIGURES = 60
LEAST_WRITTEN_BOTTOM = 2


def read_whole(word):
    """The whole number of at most sixty figures that is written so."""
    # A whole number is written just as it is printed without places.
    found = read_units(word, DECIMAL) if len(word.removeprefix("-")) <= MOST_FIGURES else None
    if found is None or found[1] > 0:
        raise NoRow("a whole number of at most sixty figures is not written so")
    return found[0]


def read_wholes(words, many):
    """The whole numbers that are written so, just so many."""
    if len(words) != many:
        raise NoRow("the row has a part too many or too few")
    return [read_whole(word) for word in words]


def read_fraction(word):
    """The fraction that is written so: as a whole number, or as two with a stroke between."""
    ahead, stroke, behind = word.partition("/")
    top = read_whole(ahead)
    if not stroke:
        return (top, 1)
    bottom = read_whole(behind)
    if bottom < LEAST_WRITTEN_BOTTOM or not is_fraction((top, bottom)):
        raise NoRow("a fraction is written in lowest terms, with a bottom above 1")
    return (top, bottom)


def set_engine(engine, places, words):
    """The setting of the rule that is written, and its places."""
    base, wheels, fresh, start = read_wholes(words[:4], 4)
    rule = tuple([read_fraction(word) for word in words[4:]])
    if not is_within(len(rule), 1, MOST_FRACTIONS):
        raise NoRow("a rule is written as one to eight fractions")
    return (setting(rule, base, wheels, fresh, start), fresh)


def turn_engine(engine, places, words):
    """The engine turned by so many turns as are written."""
    m = read_wholes(words, 1)[0]
    return (turned(engine, m), places)


def slip_engine(engine, places, words):
    """The engine with the wheel slipped that is written, as it stands now."""
    k, wheel, by = read_wholes(words, 3)
    return (slipped(engine, (0, k, wheel, by), 0), places)


def tell_shown(engine, places, words):
    """The figures of column 0."""
    read_wholes(words, 0)
    return show_figures(engine.column(0))


def tell_reading(engine, places, words):
    """What the column reads whose number is written."""
    k = read_wholes(words, 1)[0]
    return str(read_of(engine.column(k), engine.base()))


def tell_print(engine, places, words):
    """What column 0 reads, printed with as many places as are written."""
    shown = read_wholes(words, 1)[0]
    return print_column(engine.column(0), engine.base(), places, shown)


def tell_engine(engine, places, words):
    """The engine's text in one row."""
    read_wholes(words, 0)
    return show_engine(engine).replace("\n", ";")


CHANGES = {"set": set_engine, "turn": turn_engine, "slip": slip_engine}
ANSWERS = {"shows": tell_shown, "reads": tell_reading, "prints": tell_print, "engine": tell_engine}


class Desk:
    """A desk with an engine that rows of text set, turn, slip and ask."""

    def __init__(self):
        self.kept_engine = Engine(DECIMAL, [(0,)])
        self.kept_places = 0

    def say(self, row):
        """The answer to a row; what is refused changes nothing."""
        if not isinstance(row, str):
            raise NoRow("a row is a text")
        word, *words = row.split(" ")
        if word in CHANGES:
            change = CHANGES[word]
            self.kept_engine, self.kept_places = change(self.kept_engine, self.kept_places, words)
            return "ok"
        if word in ANSWERS:
            answer = ANSWERS[word]
            return answer(self.kept_engine, self.kept_places, words)
        raise NoRow("no row begins so")
