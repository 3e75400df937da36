import unittest

from cranktables.engines import Engine
from cranktables.errors import NoSlip, NoTurns
from cranktables.slips import slipped, wrong_by
from cranktables.standing import stands
from tests.makers import known, known_with, modulus_of, plain_column, plain_numbers, some_engines
from tests.test_figures import plain_number
from tests.test_standing import plain_choices
from tests.test_turning import plain_turns
from tests.things import NO_WHOLES, Grumpy, Refusing, dice

NO_TURNS = NO_WHOLES + [-1, -2, -200, 201, 202, 1000, 10 ** 30, 10 ** 59, -10 ** 59]


def no_slips(engine):
    """What is no slip of the engine: each part beside its bounds, and other things."""
    made = [thing for thing in NO_WHOLES] + [
        0, 5, (0, 0, 0), (0, 0, 1), (0, 0, 0, 1, 0), (0, 0, 0, 1, 1), ((0, 0, 0, 1),), [0, 0, 0, 1], [(0, 0, 0, 1)],
        "0001", ("0", "0", "0", "1"), {0: 0, 1: 0, 2: 0, 3: 1}, (Grumpy(),) * 4, ([0], [0], [0], [1]),
    ]
    bounds = (200, len(engine.columns()) - 1, engine.wheels() - 1, engine.base() - 1)
    for place, most in enumerate(bounds):
        least = 1 if place == 3 else 0
        for thing in NO_WHOLES + [least - 1, least - 2, most + 1, most + 2, 10 ** 59, -10 ** 59]:
            slip = [0, 0, 0, 1]
            slip[place] = thing
            made.append(tuple(slip))
    return made


def slip_numbers(engine, slip):
    """The numbers as they are right behind the slip, and what the slipped column gained."""
    turn, k, wheel, by = slip
    base, wheels = engine.base(), engine.wheels()
    numbers = [number % modulus_of(engine) for number in plain_turns(plain_numbers(engine), turn)]
    figures = list(plain_column(numbers[k], base, wheels))
    at = wheels - 1 - wheel
    for step in range(by):
        figures[at] = 0 if figures[at] == base - 1 else figures[at] + 1
    before, numbers[k] = numbers[k], plain_number(figures, base)
    return numbers, numbers[k] - before


def plain_slipped(engine, slip, m):
    """The numbers m turns on, turned turn by turn with the wheel moved."""
    if m < slip[0]:
        return plain_turns(plain_numbers(engine), m)
    return plain_turns(slip_numbers(engine, slip)[0], m - slip[0])


def told_sum(engine, slip, m):
    """What column 0 is wrong by, by the sum that the page tells."""
    turn, k, wheel, by = slip
    if m < turn:
        return 0
    gain = slip_numbers(engine, slip)[1]
    assert gain in (by * engine.base() ** wheel, (by - engine.base()) * engine.base() ** wheel)
    many = 1 if k == 0 else plain_choices(m - turn + (k - 1) // 2, k)
    return gain * many % modulus_of(engine)


def some_slips(source, engine):
    """Slips of each column, of the lowest, the highest and another wheel, by one, the most and others."""
    base, wheels = engine.base(), engine.wheels()
    for k in range(len(engine.columns())):
        for wheel in {0, wheels - 1, source.randrange(wheels)}:
            for by in {1, base - 1, source.randint(1, base - 1)}:
                yield (source.choice((0, 0, 1, 2, 7, source.randint(0, 200), 199, 200)), k, wheel, by)


class TestSlips(unittest.TestCase, Refusing):
    def check(self, engine, slip, m):
        before, modulus = known(engine), modulus_of(engine)
        told, wanted = slipped(engine, slip, m), plain_slipped(engine, slip, m)
        self.assertIs(type(told), Engine)
        self.assertEqual(known(told), known_with(engine, wanted), (slip, m))
        wrong = wrong_by(engine, slip, m)
        self.assertIs(type(wrong), int)
        self.assertEqual(wrong, (wanted[0] - plain_turns(plain_numbers(engine), m)[0]) % modulus, (slip, m))
        self.assertEqual(wrong, told_sum(engine, slip, m), (slip, m))
        self.assertEqual(known(slipped(engine, slip, m)), known(told))
        self.assertEqual(wrong_by(engine, slip, m), wrong)
        self.assertEqual(known(engine), before)
        if m < slip[0]:
            self.assertEqual(known(told), known(stands(engine, m)))
            self.assertEqual(wrong, 0)
        return wrong

    def test_plain_ones(self):
        engine = Engine(10, [(0, 0, 0), (0, 0, 1), (0, 0, 2)])
        self.assertEqual(slipped(engine, (0, 0, 0, 3), 0).columns(), [(0, 0, 3), (0, 0, 1), (0, 0, 2)])
        self.assertEqual(slipped(engine, (0, 1, 2, 1), 0).columns(), [(0, 0, 0), (1, 0, 1), (0, 0, 2)])
        self.assertEqual(slipped(engine, (0, 1, 2, 1), 2).column(0), (2, 0, 4))
        self.assertEqual(slipped(engine, (2, 0, 0, 7), 2).column(0), (0, 0, 1))
        self.assertEqual(slipped(engine, (2, 0, 0, 7), 1).column(0), (0, 0, 1))
        self.assertEqual(wrong_by(engine, (2, 0, 0, 7), 2), 997)
        self.assertEqual(wrong_by(engine, (2, 0, 0, 7), 1), 0)
        self.assertEqual(wrong_by(engine, (0, 1, 0, 1), 5), 5)
        self.assertEqual(wrong_by(engine, (0, 2, 0, 1), 1), 0)
        self.assertEqual(wrong_by(engine, (0, 2, 0, 1), 2), 1)
        self.assertEqual(wrong_by(engine, (0, 2, 0, 9), 3), 997)

    def test_nobody_is_warned(self):
        engine = Engine(10, [(9, 9, 9), (0, 0, 0)])
        self.assertEqual(slipped(engine, (0, 0, 0, 1), 0).column(0), (9, 9, 0))
        self.assertEqual(slipped(engine, (0, 0, 1, 2), 0).column(0), (9, 1, 9))
        self.assertEqual(slipped(engine, (0, 0, 2, 9), 0).column(0), (8, 9, 9))
        self.assertEqual(wrong_by(engine, (0, 0, 0, 1), 0), 991)
        self.assertEqual(wrong_by(engine, (0, 0, 2, 9), 200), 900)

    def test_each_slip_of_a_small_engine(self):
        for engine in (Engine(3, [(2, 1), (0, 2), (1, 1), (2, 2)]), Engine(2, [(1,), (0,), (1,)])):
            for turn in (0, 1, 5):
                for k in range(len(engine.columns())):
                    for wheel in range(engine.wheels()):
                        for by in range(1, engine.base()):
                            for m in range(turn + 9):
                                self.check(engine, (turn, k, wheel, by), m)

    def test_some_engines(self):
        source = dice(131)
        signs = set()
        for engine in some_engines(132, bases=(2, 10, 16), sizes=(1, 3, 40))[1::2]:
            for slip in some_slips(source, engine):
                turn = slip[0]
                signs.add((slip[1], slip_numbers(engine, slip)[1] > 0))
                for m in {max(turn - 1, 0), turn, min(turn + slip[1] // 2 + 1, 200), source.randint(0, 200)}:
                    self.check(engine, slip, m)
        # Wheels of each column went past the last figure, and others didn't.
        self.assertEqual(len(signs), 16)

    def test_the_first_and_the_last_turn(self):
        for engine in some_engines(133, bases=(10,), sizes=(2, 5)):
            for k in range(len(engine.columns())):
                for turn in (0, 200):
                    for m in (0, 1, 199, 200):
                        self.check(engine, (turn, k, engine.wheels() - 1, 5), m)

    def test_when_it_is_wrong_first(self):
        for engine in some_engines(134, bases=(2, 7, 10), sizes=(1, 2, 6)):
            for k in range(len(engine.columns())):
                for turn in (0, 3, 150):
                    slip, first = (turn, k, 0, 1), turn if k == 0 else turn + k // 2 + 1
                    for m in range(max(first - 6, 0), first):
                        self.assertEqual(wrong_by(engine, slip, m), 0)
                    self.assertNotEqual(wrong_by(engine, slip, first), 0)

    def test_refusals(self):
        for engine in (Engine(10, [(1, 2, 3), (4, 5, 6)]), Engine(2, [(0,)]), Engine(16, [(3,) * 40] * 8)):
            before, wrong = known(engine), [(NoSlip, 1, no_slips(engine)), (NoTurns, 2, NO_TURNS)]
            for function in (slipped, wrong_by):
                self.refused_in_order(function, [engine, (200, 0, 0, 1), 200], wrong)
                bounds = (200, len(engine.columns()) - 1, engine.wheels() - 1, engine.base() - 1)
                function(engine, bounds, 0)
            self.assertEqual(known(engine), before)

    def test_lists_stay_as_they_were(self):
        engine, slip = Engine(10, [(1, 2)]), [0, 0, 0, 1]
        for function in (slipped, wrong_by):
            self.refused(NoSlip, function, engine, slip, 3)
        self.assertEqual(slip, [0, 0, 0, 1])


if __name__ == "__main__":
    unittest.main()
