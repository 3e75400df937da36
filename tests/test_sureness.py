import unittest
from fractions import Fraction

from cranktables.errors import NoBase, NoFraction, NoPlaces, NoWithin
from cranktables.printing import printed
from cranktables.sureness import sure
from tests.makers import any_fraction, pair_of
from tests.test_fewest import NO_WITHIN
from tests.test_figures import NO_BASES
from tests.test_fractions import NO_FRACTIONS
from tests.test_printing import plain_printed
from tests.test_settings import NO_PLACES
from tests.things import Refusing, dice


class TestSure(unittest.TestCase, Refusing):
    def check(self, value, error, base, places):
        told = sure(pair_of(value), pair_of(error), base, places)
        least, greatest = (plain_printed(end, base, places) for end in (value - error, value + error))
        self.assertEqual(told, least if least == greatest else None)
        self.assertEqual(sure(pair_of(value), pair_of(error), base, places), told)
        if told is not None:
            self.assertIs(type(told), str)
            # Sure is never wrong: all between are printed so.
            for share in range(-8, 9):
                self.assertEqual(plain_printed(value + error * Fraction(share, 8), base, places), told)
        return told

    def test_plain_ones(self):
        for value, error, base, places, wanted in (
            ((1, 3), (1, 100), 10, 1, "0.3"), ((1, 3), (1, 100), 10, 2, None), ((1, 3), (0, 1), 10, 2, "0.33"),
            ((0, 1), (1, 2), 10, 0, "0"), ((1, 1), (1, 2), 10, 0, None), ((2, 1), (1, 2), 10, 0, "2"),
            ((-2, 1), (1, 2), 10, 0, "-2"), ((-1, 1), (1, 2), 10, 0, None), ((1, 2), (0, 1), 10, 0, "0"),
            ((3, 2), (0, 1), 10, 0, "2"), ((1, 2), (1, 100), 10, 0, None), ((0, 1), (1, 200), 10, 2, "0.00"),
            ((0, 1), (51, 10000), 10, 2, None), ((-255, 1), (1, 3), 16, 0, "-ff"), ((5, 4), (1, 16), 2, 2, "1.01"),
            ((0, 1), (10 ** 59, 1), 10, 0, None), ((9, 1), (1, 1), 10, 0, None),
        ):
            self.assertEqual(sure(value, error, base, places), wanted)

    def test_error_of_nought(self):
        source = dice(221)
        for base in (2, 3, 10, 16):
            for places in (0, 1, 5, 70):
                for again in range(12):
                    value = any_fraction(source, 60)
                    self.assertEqual(sure(value, (0, 1), base, places), printed(value, base, places))
                for halves in range(-9, 10):
                    self.check(Fraction(halves, 2 * base ** places), Fraction(0), base, places)

    def test_just_a_half_of_a_unit(self):
        for base in (2, 3, 7, 10, 16):
            for places in (0, 1, 4, 70):
                half = Fraction(1, 2 * base ** places)
                for units in range(-6, 7):
                    value = units * 2 * half
                    told = self.check(value, half, base, places)
                    # Halves go to the even units, from both sides.
                    self.assertEqual(told is None, units % 2 == 1)
                    little = half * Fraction(1, 10 ** 9)
                    self.assertIsNotNone(self.check(value, half - little, base, places))
                    self.assertIsNone(self.check(value, half + little, base, places))

    def test_reaching_a_half_from_one_side(self):
        for base, places in ((10, 0), (10, 2), (16, 1), (2, 3)):
            unit = Fraction(1, base ** places)
            for units in range(-5, 6):
                for part in (Fraction(1, 5), Fraction(-1, 5), Fraction(2, 5), Fraction(-2, 5), Fraction(49, 100)):
                    value = (units + part) * unit
                    for error in (Fraction(1, 2) - abs(part), Fraction(1, 2) - abs(part) + Fraction(1, 10 ** 12)):
                        self.check(value, error * unit, base, places)

    def test_around_nought(self):
        # What is rounded to 0 is printed alike on both sides of it.
        self.assertEqual(sure((0, 1), (2, 5), 10, 0), "0")
        self.assertEqual(sure((-1, 10), (2, 5), 10, 0), "0")
        self.assertEqual(sure((-1, 10), (1, 3), 10, 0), "0")
        self.assertIsNone(sure((-1, 10), (1, 2), 10, 0))

    def test_some(self):
        source = dice(222)
        found = set()
        for again in range(400):
            value, base, places = Fraction(*any_fraction(source, 6)), source.randint(2, 16), source.choice((0, 1, 2, 9))
            error = abs(Fraction(*any_fraction(source, 4))) / (base ** places * source.choice((1, 3, 100)))
            found.add(self.check(value, error, base, places) is None)
        self.assertEqual(found, {True, False})

    def test_long_ones(self):
        source = dice(223)
        for again in range(60):
            value, error = Fraction(*any_fraction(source, 60)), abs(Fraction(*any_fraction(source, 60)))
            self.check(value, error, 10, 70)
            self.check(value, Fraction(1, 10 ** 60 - 1), 10, 3)

    def test_refusals(self):
        wrong = [(NoFraction, 0, NO_FRACTIONS), (NoWithin, 1, NO_WITHIN), (NoBase, 2, NO_BASES), (NoPlaces, 3, NO_PLACES)]
        self.refused_in_order(sure, [(-5, 2), (1, 7), 10, 3], wrong)
        self.refused_in_order(sure, [(5, 2), (0, 1), 2, 0], wrong)

    def test_lists_stay_as_they_were(self):
        value, error = [1, 2], [1, 3]
        self.refused(NoFraction, sure, value, error, 10, 1)
        self.refused(NoWithin, sure, (1, 2), error, 10, 1)
        self.assertEqual((value, error), ([1, 2], [1, 3]))


if __name__ == "__main__":
    unittest.main()
