"""Engines: columns of one base with as many wheels each, which never change."""

from cranktables.errors import NoColumn, NoColumns
from cranktables.figures import check_base, column_of, is_column, number_of
from cranktables.wholes import is_within, power

MOST_COLUMNS = 8


def are_columns(thing, base):
    """Whether this is a list of columns that an engine of the base can have."""
    if not isinstance(thing, list) or not 1 <= len(thing) <= MOST_COLUMNS:
        return False
    if not all([is_column(column, base) for column in thing]):
        return False
    return all([len(column) == len(thing[0]) for column in thing])


class Engine:
    """An engine of a base and a list of one to eight columns."""

    def __init__(self, base, columns):
        check_base(base)
        if not are_columns(columns, base):
            raise NoColumns("an engine has a list of 1 to 8 columns of its base, with as many wheels each")
        self.kept_base = base
        # A tuple of its own, so that the handed list may change.
        self.kept_columns = tuple(columns)

    def base(self):
        """The base of all columns."""
        return self.kept_base

    def wheels(self):
        """How many wheels a column has."""
        return len(self.kept_columns[0])

    def columns(self):
        """The columns, in a new list."""
        return list(self.kept_columns)

    def column(self, k):
        """The column with the number k."""
        if not is_within(k, 0, len(self.kept_columns) - 1):
            raise NoColumn("the engine has no column with this number")
        return self.kept_columns[k]


def modulus_of(engine):
    """M: the base to the power of how many wheels a column has."""
    return power(engine.base(), engine.wheels())


def numbers_in(engine):
    """The numbers of the engine's columns, in a new list."""
    return [number_of(column, engine.base()) for column in engine.columns()]


def engine_of(base, wheels, numbers):
    """The engine of this base and so many wheels with these numbers, but for multiples of M."""
    return Engine(base, [column_of(number, base, wheels) for number in numbers])


def engine_with(engine, numbers):
    """An engine of the same base and wheels with these numbers, but for multiples of M."""
    return engine_of(engine.base(), engine.wheels(), numbers)
