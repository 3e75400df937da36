"""The refusals: one class for each kind of thing that is not what it should be."""


class CrankError(ValueError):
    """Whatever the program refuses."""


class NoFraction(CrankError):
    """What should be a fraction is none, or a fraction is divided by nought."""


class NoBase(CrankError):
    """What should be a base is none."""


class NoWheels(CrankError):
    """What should be a number of wheels is none."""


class NoColumns(CrankError):
    """What should be the columns of an engine, or how many there are, is not."""


class NoColumn(CrankError):
    """What should be a column, its number, or what it is made of is not."""


class NoText(CrankError):
    """What should be the text of an engine is not."""


class NoTurns(CrankError):
    """What should be a number of turns, or of rows, is none."""


class NoRule(CrankError):
    """What should be a rule is none."""


class NoPlaces(CrankError):
    """What should be a number of places is none."""


class NoStart(CrankError):
    """What should be a start is none."""


class NoValues(CrankError):
    """What should be a list of values is none."""


class NoSlip(CrankError):
    """What should be a slip of the engine is none."""


class NoChecks(CrankError):
    """What should be a list of checks is none."""


class NoShown(CrankError):
    """What should be a list of what column 0 showed is none."""


class TooMany(CrankError):
    """There are too many slips to go through."""


class NoTable(CrankError):
    """What should be a table is none."""


class NoDegree(CrankError):
    """What should be a degree is none."""


class NoPicked(CrankError):
    """What should be picked turns of a table is not."""


class NoWithin(CrankError):
    """What should be a fraction from 0 on is none."""


class NoPrint(CrankError):
    """What should be a printed fraction is none."""


class NoRows(CrankError):
    """What should be a list of printed columns is none."""


class NoRow(CrankError):
    """What should be a row for a desk is none."""


class NotWhole(CrankError):
    """A worth that an engine should show is not whole; x is where."""

    def __init__(self, text, x):
        super().__init__(text)
        self.x = x
