"""Carries in time: how one column is added to another one, or taken from it, beat by beat."""

from cranktables.errors import NoColumn
from cranktables.figures import check_base, is_column
from cranktables.turning import BACK, FIRST_EVEN, FIRST_ODD, ON, first_half


def check_pair(base, one, other):
    """Refuse the two unless they are columns of the base with as many wheels each."""
    check_base(base)
    if not is_column(one, base) or not is_column(other, base) or len(one) != len(other):
        raise NoColumn("two columns of the base are needed, with as many wheels each")


def move_all(base, one, other, way):
    """The other one's figures behind the first moving, from wheel 0 on, and the wheels warned by it."""
    moved = [figure + way * by for figure, by in zip(other[::-1], one[::-1])]
    warned = [wheel for wheel, figure in enumerate(moved) if not 0 <= figure < base]
    return ([figure % base for figure in moved], warned)


def move_by_one(base, figures, wheels, way):
    """Move these wheels by one, at once; tells which of them are warned so."""
    warned = []
    for wheel in wheels:
        figures[wheel] = (figures[wheel] + way) % base
        # A wheel that has just gone past the last figure shows 0, one that has gone back past 0 the last one.
        if figures[wheel] == (0 if way == ON else base - 1):
            warned.append(wheel)
    return warned


def run_beats(base, one, other, way):
    """The column that comes, the beats and how many warnings are lost."""
    check_pair(base, one, other)
    figures, warned = move_all(base, one, other, way)
    highest = len(figures) - 1
    beats = []
    lost = warned.count(highest)
    moving = [wheel + 1 for wheel in warned if wheel != highest]
    while moving:
        beats.append(moving)
        warned = move_by_one(base, figures, moving, way)
        lost += warned.count(highest)
        moving = [wheel + 1 for wheel in warned if wheel != highest]
    return (tuple(figures[::-1]), beats, lost)


def carries_to(base, one, other, way):
    """Wheel by wheel from 0 on 1 where a carry comes to it, else 0, without any beats."""
    check_pair(base, one, other)
    figures, warned = move_all(base, one, other, way)
    last = base - 1 if way == ON else 0
    comes = [0]
    for wheel in range(len(figures) - 1):
        runs_on = comes[wheel] == 1 and figures[wheel] == last
        comes.append(1 if runs_on or wheel in warned else 0)
    return comes


def added(base, one, other):
    """One column added to the other: (column, beats, lost)."""
    return run_beats(base, one, other, ON)


def taken(base, one, other):
    """One column taken from the other: (column, beats, lost)."""
    return run_beats(base, one, other, BACK)


def carried(base, one, other):
    """The wheels that a carry comes to as one column is added to the other."""
    return carries_to(base, one, other, ON)


def borrowed(base, one, other):
    """The wheels that a carry comes to as one column is taken from the other."""
    return carries_to(base, one, other, BACK)


def most_beats(engine, start):
    """The greatest number of beats where every second column, from the start on, is added to the one ahead."""
    columns = engine.columns()
    beats = [len(added(engine.base(), columns[k], columns[k - 1])[1]) for k in range(start, len(columns), 2)]
    return max(beats, default=0)


def half_beats(engine):
    """The greatest number of beats in the first half of a turn, and in the second half behind it."""
    return (most_beats(engine, FIRST_ODD), most_beats(first_half(engine), FIRST_EVEN))
