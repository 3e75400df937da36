"""Engines for the tests, and what is known of them without the program."""

from cranktables.engines import Engine
from tests.things import dice


def any_columns(source, base, wheels, many):
    return [tuple(source.randrange(base) for wheel in range(wheels)) for column in range(many)]


def some_engines(seed, bases=(2, 3, 7, 10, 11, 16), sizes=(1, 2, 3, 5, 13, 40)):
    """Engines of one to eight columns: all noughts, all of the last figure, and any figures."""
    source = dice(seed)
    made = []
    for many in range(1, 9):
        for base in bases:
            wheels = source.choice(sizes)
            made.append(Engine(base, [(0,) * wheels] * many))
            made.append(Engine(base, [(base - 1,) * wheels] * many))
            made.append(Engine(base, any_columns(source, base, wheels, many)))
            made.append(Engine(base, any_columns(source, base, source.choice(sizes), many)))
    return made


def known(engine):
    """All there is to know of an engine, to compare it by."""
    return (engine.base(), engine.wheels(), engine.columns())


def plain_numbers(engine):
    base = engine.base()
    return [
        sum(figure * base ** wheel for wheel, figure in enumerate(reversed(column)))
        for column in engine.columns()
    ]


def modulus_of(engine):
    return engine.base() ** engine.wheels()


def plain_column(number, base, wheels):
    return tuple(number // base ** wheel % base for wheel in reversed(range(wheels)))


def known_with(engine, numbers):
    """What is known of an engine like this one with these numbers, but for multiples of M."""
    base, wheels = engine.base(), engine.wheels()
    return (base, wheels, [plain_column(number, base, wheels) for number in numbers])
