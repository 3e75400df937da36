"""Texts of engines: a row for the base and the wheels, and a row for each column."""

from cranktables.engines import MOST_COLUMNS, Engine
from cranktables.errors import NoText
from cranktables.figures import MOST_WHEELS, is_base

SIGNS = "0123456789abcdef"


def show_figures(column):
    """The figures of a column, the highest first, those from 10 on as letters."""
    return "".join([SIGNS[figure] for figure in column])


def show_engine(engine):
    """The text of an engine."""
    rows = [f"engine {engine.base()} {engine.wheels()}\n"]
    for k, column in enumerate(engine.columns()):
        rows.append(f"{k} {show_figures(column)}\n")
    return "".join(rows)


def read_size(word):
    """The whole number from 1 to 40 that is written so."""
    # Looked up as it would be shown, so that no other way to write it is read.
    written = [str(size) for size in range(1, MOST_WHEELS + 1)]
    if word not in written:
        raise NoText("a base or a number of wheels is not written so")
    return written.index(word) + 1


def read_head(row):
    """The base and how many wheels there are, of the first row."""
    words = row.split(" ")
    if len(words) != 3 or words[0] != "engine":
        raise NoText("the first row has engine, the base and the wheels")
    base, wheels = read_size(words[1]), read_size(words[2])
    if not is_base(base):
        raise NoText("the first row has no base")
    return (base, wheels)


def read_column(row, k, base, wheels):
    """The column with the number k, of its row."""
    ahead = f"{k} "
    if not row.startswith(ahead) or len(row) != len(ahead) + wheels:
        raise NoText("a column's row has its number, a blank and its figures")
    figures = row[len(ahead):]
    if not all([sign in SIGNS[:base] for sign in figures]):
        raise NoText("a sign is no figure of the base")
    return tuple([SIGNS.index(sign) for sign in figures])


def read_engine(text):
    """The engine of which this is the text."""
    if not isinstance(text, str) or not text.endswith("\n"):
        raise NoText("an engine's text is a text with a line feed at its end")
    head, *rows = text[:-1].split("\n")
    base, wheels = read_head(head)
    if not 1 <= len(rows) <= MOST_COLUMNS:
        raise NoText("an engine has from 1 to 8 columns")
    return Engine(base, [read_column(row, k, base, wheels) for k, row in enumerate(rows)])
