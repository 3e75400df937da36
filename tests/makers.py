"""Engines and rules for the tests, and what is known of them without the program."""

from fractions import Fraction

from cranktables.engines import Engine
from tests.things import dice, long_number


def any_columns(source, base, wheels, many):
    return [tuple(source.randrange(base) for wheel in range(wheels)) for column in range(many)]


def some_engines(seed, bases=(2, 3, 7, 10, 11, 16), sizes=(1, 2, 3, 5, 13, 40)):
    """Engines of one to eight columns: all noughts, all of the last figure, and any figures."""
    source = dice(seed)
    made = []
    for many in range(1, 9):
        for base in bases:
            wheels = source.choice(sizes)
            made.append(Engine(base, [(0,) * wheels] * many))
            made.append(Engine(base, [(base - 1,) * wheels] * many))
            made.append(Engine(base, any_columns(source, base, wheels, many)))
            made.append(Engine(base, any_columns(source, base, source.choice(sizes), many)))
    return made


def known(engine):
    """All there is to know of an engine, to compare it by."""
    return (engine.base(), engine.wheels(), engine.columns())


def plain_numbers(engine):
    base = engine.base()
    return [
        sum(figure * base ** wheel for wheel, figure in enumerate(reversed(column)))
        for column in engine.columns()
    ]


def modulus_of(engine):
    return engine.base() ** engine.wheels()


def plain_column(number, base, wheels):
    return tuple(number // base ** wheel % base for wheel in reversed(range(wheels)))


def known_with(engine, numbers):
    """What is known of an engine like this one with these numbers, but for multiples of M."""
    base, wheels = engine.base(), engine.wheels()
    return (base, wheels, [plain_column(number, base, wheels) for number in numbers])


def pair_of(told):
    return (told.numerator, told.denominator)


def any_fraction(source, most_figures):
    return pair_of(Fraction(long_number(source, most_figures), long_number(source, most_figures) or 1))


def any_rule(source, many, most_figures=2):
    """A rule of so many fractions, some of them nought, but not the last one of several."""
    parts = [source.choice([(0, 1), any_fraction(source, most_figures)]) for part in range(many)]
    while many > 1 and parts[-1] == (0, 1):
        parts[-1] = any_fraction(source, most_figures)
    return tuple(parts)


def some_rules(seed):
    """Rules of one to eight fractions, short and long ones."""
    source = dice(seed)
    made = [((0, 1),), ((1, 1),), ((-7, 3),), ((0, 1), (1, 1)), ((0, 1),) * 7 + ((1, 1),), ((0, 1),) * 7 + ((1, 5040),)]
    for many in range(1, 9):
        for most_figures in (1, 1, 2, 3, 60):
            made.append(any_rule(source, many, most_figures))
    return made


def plain_worth(rule, x):
    """The worth by its own words."""
    return sum((Fraction(*part) * x ** k for k, part in enumerate(rule)), Fraction(0))


def plain_differences(rule, x):
    """The differences by their own words, one order behind another, of which each first one is told."""
    order = {x + k: plain_worth(rule, x + k) for k in range(len(rule))}
    told = []
    while order:
        told.append(order[x])
        order = {at: order[at + 1] - order[at] for at in order if at + 1 in order}
    return told
