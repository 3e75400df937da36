import unittest

from cranktables.engines import Engine
from cranktables.errors import NoTurns
from cranktables.turning import back, crank, first_half, second_half, turned
from tests.makers import known, known_with, plain_numbers, some_engines
from tests.things import NO_WHOLES, Refusing

NO_TURNS = NO_WHOLES + [-201, 201, 202, 1000, -1000, 10 ** 59, -10 ** 59]


def plain_half(numbers, start, sign):
    """One column after another, as the page tells it."""
    moved = list(numbers)
    for k in range(len(numbers)):
        if k >= start and (k - start) % 2 == 0:
            moved[k - 1] = moved[k - 1] + sign * moved[k]
    return moved


def plain_turns(numbers, m):
    for turn in range(m):
        numbers = plain_half(plain_half(numbers, 1, 1), 2, 1)
    for turn in range(-m):
        numbers = plain_half(plain_half(numbers, 2, -1), 1, -1)
    return numbers


class TestHalves(unittest.TestCase):
    def test_plain_ones(self):
        engine = Engine(10, [(0, 1), (0, 2), (0, 3), (0, 4), (0, 5)])
        self.assertEqual(first_half(engine).columns(), [(0, 3), (0, 2), (0, 7), (0, 4), (0, 5)])
        self.assertEqual(second_half(engine).columns(), [(0, 1), (0, 5), (0, 3), (0, 9), (0, 5)])
        self.assertEqual(crank(engine).columns(), [(0, 3), (0, 9), (0, 7), (0, 9), (0, 5)])
        self.assertEqual(back(engine).columns(), [(0, 2), (9, 9), (0, 4), (9, 9), (0, 5)])

    def test_numbers_go_modulo_m(self):
        engine = Engine(10, [(9, 9), (0, 2)])
        self.assertEqual(first_half(engine).columns(), [(0, 1), (0, 2)])
        self.assertEqual(back(Engine(10, [(0, 1), (0, 2)])).columns(), [(9, 9), (0, 2)])
        self.assertEqual(second_half(Engine(16, [(0,), (15,), (15,)])).columns(), [(0,), (14,), (15,)])

    def test_nothing_to_be_added(self):
        for figures in ((0, 0), (7, 3), (9, 9)):
            one = Engine(10, [figures])
            two = Engine(10, [figures, (4, 4)])
            for function in (first_half, second_half, crank, back):
                self.assertEqual(known(function(one)), known(one))
            self.assertEqual(known(second_half(two)), known(two))

    def test_some_engines(self):
        for engine in some_engines(71):
            numbers, before = plain_numbers(engine), known(engine)
            for function, wanted in (
                (first_half, plain_half(numbers, 1, 1)),
                (second_half, plain_half(numbers, 2, 1)),
                (crank, plain_turns(numbers, 1)),
                (back, plain_turns(numbers, -1)),
            ):
                told = function(engine)
                self.assertIs(type(told), Engine)
                self.assertEqual(known(told), known_with(engine, wanted))
                self.assertEqual(known(function(engine)), known(told))
                self.assertEqual(known(engine), before)
            self.assertEqual(known(second_half(first_half(engine))), known(crank(engine)))
            self.assertEqual(known(back(crank(engine))), before)
            self.assertEqual(known(crank(back(engine))), before)


class TestTurned(unittest.TestCase, Refusing):
    def test_each_number_of_turns(self):
        engine = Engine(10, [(1, 2, 3), (9, 9, 8), (0, 0, 5), (7, 1, 0)])
        on = behind = engine
        for m in range(201):
            self.assertEqual(known(turned(engine, m)), known(on))
            self.assertEqual(known(turned(engine, -m)), known(behind))
            on, behind = crank(on), back(behind)

    def test_some_engines(self):
        for engine in some_engines(72):
            before = known(engine)
            for m in (-200, -199, -57, -2, -1, 0, 1, 2, 3, 88, 199, 200):
                told = turned(engine, m)
                self.assertEqual(known(told), known_with(engine, plain_turns(plain_numbers(engine), m)))
                self.assertEqual(known(turned(told, -m)), before)
                self.assertEqual(known(engine), before)

    def test_no_turns(self):
        for engine in (Engine(2, [(0,)]), Engine(10, [(1, 2), (3, 4), (5, 6)])):
            before = known(engine)
            for thing in NO_TURNS:
                self.refused(NoTurns, turned, engine, thing)
            self.assertEqual(known(engine), before)


if __name__ == "__main__":
    unittest.main()
