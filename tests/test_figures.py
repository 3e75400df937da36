import unittest

from cranktables.errors import NoBase, NoColumn, NoWheels
from cranktables.figures import column_of, number_of, read_of
from tests.things import NO_WHOLES, Grumpy, Refusing, dice, long_number

NO_BASES = NO_WHOLES + [1, 0, -1, -2, -10, 17, 18, 100, 10 ** 59, -10 ** 59]
NO_WHEELS = NO_WHOLES + [0, -1, -40, 41, 42, 1000, 10 ** 59, -10 ** 59]


def no_columns(base):
    """What is no column of the base."""
    return [thing for thing in NO_WHOLES if thing.__class__ is not tuple] + [
        (), 0, 1, 10, [], [0], [1, 0, 1], [(1, 0)], "101", (0,) * 41, (1,) * 42, (0,) * 400,
        (-1,), (0, -1), (-1, 0), (base,), (0, base), (base, 0), (base + 1,), (0, base + 5, 0), (10 ** 59,), (-10 ** 59,),
        (True,), (False,), (0, True), (False, 0), ("0",), (0, "1"), (None,), (0, None), (0.0,), (1.0, 0), (1j,),
        ((0, 1),), ((0,),), (0, (1, 0)), ([0, 1],), (0, [1]), (Grumpy(),), (0, Grumpy()), ((),), ("",), (b"0",),
    ]


def plain_number(column, base):
    """Each figure times the base to the power of its wheel's number, together."""
    return sum(figure * base ** wheel for wheel, figure in enumerate(reversed(column)))


def sizes():
    """Each base with small and great numbers of wheels."""
    return [(base, wheels) for base in range(2, 17) for wheels in (1, 2, 3, 4, 7, 19, 39, 40)]


class TestColumnOf(unittest.TestCase, Refusing):
    def check(self, number, base, wheels):
        told = column_of(number, base, wheels)
        self.assertIs(type(told), tuple)
        self.assertEqual(len(told), wheels)
        self.assertTrue(all(type(figure) is int and 0 <= figure < base for figure in told))
        self.assertEqual(plain_number(told, base), number % base ** wheels)
        self.assertEqual(column_of(number, base, wheels), told)

    def test_plain_ones(self):
        self.assertEqual(column_of(1234, 10, 6), (0, 0, 1, 2, 3, 4))
        self.assertEqual(column_of(1234, 10, 4), (1, 2, 3, 4))
        self.assertEqual(column_of(1234, 10, 2), (3, 4))
        self.assertEqual(column_of(-1, 10, 3), (9, 9, 9))
        self.assertEqual(column_of(-1234, 10, 4), (8, 7, 6, 6))
        self.assertEqual(column_of(255, 16, 3), (0, 15, 15))
        self.assertEqual(column_of(-1, 2, 1), (1,))
        self.assertEqual(column_of(0, 7, 40), (0,) * 40)

    def test_around_halves_and_multiples_of_m(self):
        for base, wheels in sizes():
            modulus = base ** wheels
            for half in range(-6, 7):
                for aside in (-2, -1, 0, 1, 2):
                    self.check(half * modulus // 2 + aside, base, wheels)

    def test_small_numbers(self):
        for base in (2, 3, 10, 16):
            for number in range(-300, 301):
                for wheels in (1, 2, 3):
                    self.check(number, base, wheels)

    def test_long_numbers(self):
        source = dice(51)
        for base in range(2, 17):
            for wheels in range(1, 41):
                self.check(long_number(source), base, wheels)
                self.check(10 ** 60 - 1, base, wheels)
                self.check(1 - 10 ** 60, base, wheels)

    def test_no_base(self):
        for thing in NO_BASES:
            self.refused(NoBase, column_of, 5, thing, 3)

    def test_no_wheels(self):
        for thing in NO_WHEELS:
            self.refused(NoWheels, column_of, 5, 10, thing)

    def test_no_whole_number(self):
        for thing in NO_WHOLES:
            self.refused(NoColumn, column_of, thing, 10, 3)

    def test_several_refusals_due(self):
        for thing in NO_WHOLES + [17]:
            for other in NO_WHOLES + [41]:
                self.refused(NoBase, column_of, 5, thing, other)
                self.refused(NoBase, column_of, other, thing, 0)
        for thing in NO_WHOLES:
            self.refused(NoBase, column_of, thing, 1, 3)
            self.refused(NoBase, column_of, thing, thing, thing)
            self.refused(NoWheels, column_of, thing, 10, 0)
            self.refused(NoWheels, column_of, thing, 10, thing)

    def test_edges_that_are_no_refusals(self):
        for base in (2, 16):
            for wheels in (1, 40):
                self.check(0, base, wheels)


class TestNumberAndReading(unittest.TestCase, Refusing):
    def check(self, column, base):
        number, modulus = plain_number(column, base), base ** len(column)
        read = number - modulus if 2 * number >= modulus else number
        self.assertEqual(number_of(column, base), number)
        self.assertEqual(read_of(column, base), read)
        for told in (number, read):
            for more in (-3, -1, 0, 1, 2, 10 ** 9):
                self.assertEqual(column_of(told + more * modulus, base, len(column)), column)
        self.assertEqual(number_of(column, base), number)
        self.assertEqual(read_of(column, base), read)

    def test_plain_ones(self):
        self.assertEqual(number_of((0, 1, 2), 10), 12)
        self.assertEqual(number_of((1, 0, 1, 1), 2), 11)
        self.assertEqual(number_of((15, 15), 16), 255)
        self.assertEqual(read_of((4, 9), 10), 49)
        self.assertEqual(read_of((5, 0), 10), -50)
        self.assertEqual(read_of((5, 1), 10), -49)
        self.assertEqual(read_of((9, 9), 10), -1)
        self.assertEqual(read_of((1,), 2), -1)
        self.assertEqual(read_of((0,), 2), 0)
        self.assertEqual(read_of((1,), 3), 1)
        self.assertEqual(read_of((2,), 3), -1)
        self.assertEqual(read_of((1, 1), 3), 4)
        self.assertEqual(read_of((1, 2), 3), -4)

    def test_all_short_columns(self):
        for base in range(2, 17):
            for number in range(base):
                self.check((number,), base)
            for number in range(base * base):
                self.check(divmod(number, base), base)

    def test_around_halves_of_m(self):
        for base, wheels in sizes():
            modulus = base ** wheels
            for number in (0, 1, modulus // 2 - 1, modulus // 2, (modulus + 1) // 2, modulus // 2 + 1, modulus - 1):
                if 0 <= number < modulus:
                    figures = tuple(number // base ** wheel % base for wheel in range(wheels))
                    self.check(figures[::-1], base)

    def test_any_figures(self):
        source = dice(52)
        for base in range(2, 17):
            for wheels in range(1, 41):
                self.check(tuple(source.randrange(base) for wheel in range(wheels)), base)

    def test_no_base(self):
        for function in (number_of, read_of):
            for thing in NO_BASES:
                self.refused(NoBase, function, (0, 1), thing)
                for other in no_columns(10):
                    self.refused(NoBase, function, other, thing)

    def test_no_column(self):
        for function in (number_of, read_of):
            for base in (2, 3, 10, 15, 16):
                for thing in no_columns(base):
                    self.refused(NoColumn, function, thing, base)

    def test_what_is_handed_in_stays(self):
        for function in (number_of, read_of):
            thing = [1, 0, 1]
            self.refused(NoColumn, function, thing, 10)
            self.assertEqual(thing, [1, 0, 1])


if __name__ == "__main__":
    unittest.main()
