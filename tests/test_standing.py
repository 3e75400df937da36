import unittest
from fractions import Fraction

from cranktables.engines import Engine
from cranktables.errors import NoTurns
from cranktables.standing import readings, shows, stands
from cranktables.turning import turned
from tests.makers import known, known_with, modulus_of, plain_numbers, some_engines
from tests.things import NO_WHOLES, Refusing, dice

MOST = 10 ** 30 - 1
LONG_TURNS = (MOST, -MOST, MOST - 1, 1 - MOST, 10 ** 29, -10 ** 29, 10 ** 15 + 7, -10 ** 15 - 7, 201, -201, 1000)


def plain_choices(n, j):
    product = Fraction(1)
    for k in range(j):
        product *= Fraction(n - k, j - k)
    assert product.denominator == 1
    return product.numerator


def plain_standing(numbers, m):
    """The told sums, worked out by fractions."""
    return [
        sum(numbers[j] * plain_choices(m - k // 2 + (j - 1) // 2, j - k) for j in range(k, len(numbers)))
        for k in range(len(numbers))
    ]


def plain_shown(numbers, m):
    """Column 0 by its own words: column 0, m times column 1, C(m, 2) times column 2 .."""
    return sum(number * plain_choices(m + max(j - 1, 0) // 2, j) for j, number in enumerate(numbers))


class TestStands(unittest.TestCase, Refusing):
    def test_as_so_many_turns_would(self):
        for engine in some_engines(81, bases=(2, 10, 16)):
            before = known(engine)
            for m in list(range(-20, 21)) + [-200, -101, 77, 199, 200]:
                told = stands(engine, m)
                self.assertIs(type(told), Engine)
                self.assertEqual(known(told), known(turned(engine, m)), m)
                self.assertEqual(shows(engine, m), told.column(0))
            self.assertEqual(known(engine), before)

    def test_each_number_of_turns(self):
        engine = Engine(10, [(k, 9, 8 - k, k, 0, 3) for k in range(8)])
        for m in range(-200, 201):
            self.assertEqual(known(stands(engine, m)), known(turned(engine, m)))

    def test_long_numbers_of_turns(self):
        source = dice(82)
        for engine in some_engines(83, bases=(2, 10, 13), sizes=(1, 9, 40)):
            numbers, before = plain_numbers(engine), known(engine)
            for m in LONG_TURNS + (source.randint(-MOST, MOST),):
                told = stands(engine, m)
                self.assertEqual(known(told), known_with(engine, plain_standing(numbers, m)), m)
                self.assertEqual(shows(engine, m), told.column(0))
                self.assertIs(type(shows(engine, m)), tuple)
                shown = known_with(engine, [plain_shown(numbers, m)])[2][0]
                self.assertEqual(shows(engine, m), shown)
                self.assertEqual(known(stands(told, -m)), before)
                self.assertEqual(known(stands(engine, m)), known(told))
            self.assertEqual(known(engine), before)

    def test_behind_one_another(self):
        source = dice(84)
        for engine in some_engines(85, bases=(3, 10), sizes=(2, 40)):
            for m, n in ((3, 4), (-7, 2), (10 ** 29, -10 ** 28), (-MOST, MOST), (10 ** 20, 1)):
                self.assertEqual(known(stands(stands(engine, m), n)), known(stands(engine, m + n)))
            m, n = source.randint(-MOST, MOST) // 2, source.randint(-MOST, MOST) // 2
            self.assertEqual(known(stands(stands(engine, m), n)), known(stands(engine, m + n)))
            self.assertEqual(known(turned(stands(engine, m), 5)), known(stands(engine, m + 5)))

    def test_no_turns(self):
        engine = Engine(10, [(1, 2), (3, 4), (5, 6)])
        before = known(engine)
        for thing in NO_WHOLES + [10 ** 30, -10 ** 30, 10 ** 30 + 1, 10 ** 31 - 1, 1 - 10 ** 31, 10 ** 59, -10 ** 59]:
            self.refused(NoTurns, stands, engine, thing)
            self.refused(NoTurns, shows, engine, thing)
        self.assertEqual(known(engine), before)


class TestReadings(unittest.TestCase, Refusing):
    def test_squares(self):
        engine = Engine(10, [(0, 0, 0), (0, 0, 1), (0, 0, 2)])
        self.assertEqual(readings(engine, 23), [m * m for m in range(23)])
        self.assertEqual(readings(engine, 24)[23], 529 - 1000)
        self.assertEqual(readings(engine, 0), [])
        self.assertEqual(readings(engine, 1), [0])

    def test_below_nought(self):
        self.assertEqual(readings(Engine(10, [(0, 2), (9, 9)]), 6), [2, 1, 0, -1, -2, -3])
        self.assertEqual(readings(Engine(2, [(0,), (1,)]), 4), [0, -1, 0, -1])
        self.assertEqual(readings(Engine(10, [(4, 9), (0, 1)]), 3), [49, -50, -49])

    def test_some_engines(self):
        for engine in some_engines(86, bases=(2, 10, 15)):
            numbers, modulus, before = plain_numbers(engine), modulus_of(engine), known(engine)
            wanted = []
            for m in range(200):
                number = plain_shown(numbers, m) % modulus
                wanted.append(number - modulus if 2 * number >= modulus else number)
            for many in (0, 1, 2, 50, 199, 200):
                told = readings(engine, many)
                self.assertIs(type(told), list)
                self.assertEqual(told, wanted[:many])
                told.append("more")
                told[0] = "changed"
                self.assertEqual(readings(engine, many), wanted[:many])
            self.assertEqual(known(engine), before)

    def test_no_turns(self):
        engine = Engine(10, [(1, 2), (3, 4), (5, 6)])
        for thing in NO_WHOLES + [-1, -2, -200, 201, 202, 10 ** 30, 10 ** 59, -10 ** 59]:
            self.refused(NoTurns, readings, engine, thing)


if __name__ == "__main__":
    unittest.main()
