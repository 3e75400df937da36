import unittest
from fractions import Fraction
from math import gcd

from cranktables.errors import NoFraction
from cranktables.fractions import fraction, is_below, is_fraction, less, over, plus, times
from tests.makers import pair_of
from tests.things import NO_WHOLES, Grumpy, Refusing, dice, long_number

RECKONINGS = (plus, less, times, over, is_below)

NO_FRACTIONS = [thing for thing in NO_WHOLES if thing.__class__ is not tuple] + [
    (), (2,), 0, 1, -1, 5, [1, 2], [0, 1], (1,), (1, 2, 3), (1, 2, 1), (2, 4), (-2, 4), (6, 3), (0, 2), (0, -1), (0, 0),
    (1, 0), (1, -2), (-1, -2), (3, -1), (True, 2), (1, True), (True, True), (False, 1), (0, True),
    (1, None), (None, 1), ("1", "2"), ("1", 2), (1, "2"), (1.0, 2), (1, 2.0), ((1, 2), 1), (1, (1, 2)),
    ((1, 2), (1, 2)), ((1, 2),), [(1, 2)], (Grumpy(), 1), (1, Grumpy()), (10 ** 40, 10 ** 41), "12", {1: 2, 2: 1},
]


def some_fractions():
    source = dice(41)
    made = [(0, 1), (1, 1), (-1, 1), (1, 2), (-1, 2), (2, 3), (-7, 4), (5, 1), (10 ** 59 + 1, 3), (1, 10 ** 59 + 1)]
    while len(made) < 45:
        bottom = long_number(source) or 1
        made.append(pair_of(Fraction(long_number(source), bottom)))
    return made


class TestMaking(unittest.TestCase, Refusing):
    def check(self, top, bottom):
        told = fraction(top, bottom)
        self.assertIs(type(told), tuple)
        self.assertEqual(told, pair_of(Fraction(top, bottom)))
        self.assertGreaterEqual(told[1], 1)
        self.assertEqual(gcd(told[0], told[1]), 1)
        self.assertEqual(told[0] * bottom, top * told[1])
        self.assertIs(is_fraction(told), True)
        self.assertEqual(fraction(top, bottom), told)
        self.assertEqual(fraction(told[0], told[1]), told)

    def test_plain_ones(self):
        self.assertEqual(fraction(6, 4), (3, 2))
        self.assertEqual(fraction(-6, 4), (-3, 2))
        self.assertEqual(fraction(6, -4), (-3, 2))
        self.assertEqual(fraction(-6, -4), (3, 2))
        self.assertEqual(fraction(0, -9), (0, 1))
        self.assertEqual(fraction(0, 1), (0, 1))
        self.assertEqual(fraction(-5, -1), (5, 1))

    def test_small_ones(self):
        for top in range(-40, 41):
            for bottom in range(-40, 41):
                if bottom != 0:
                    self.check(top, bottom)

    def test_long_ones(self):
        source = dice(4)
        for round_number in range(300):
            self.check(long_number(source), long_number(source) or 1)

    def test_long_ones_with_much_in_common(self):
        source = dice(5)
        for round_number in range(300):
            shared = long_number(source, 30) or 7
            self.check(long_number(source, 30) * shared, (long_number(source, 30) or 1) * shared)
        self.check(2 ** 190, 2 ** 180 * 3)
        self.check(10 ** 60 - 1, 10 ** 60 - 1)
        self.check(10 ** 60 - 1, 1 - 10 ** 60)

    def test_worst_case_for_remainders(self):
        one, other = 1, 1
        while other < 10 ** 59:
            one, other = other, one + other
        self.check(one, other)
        self.check(other, -one)

    def test_second_is_0(self):
        for top in (0, 1, -1, 10 ** 59, -10 ** 59):
            self.refused(NoFraction, fraction, top, 0)

    def test_no_whole_numbers(self):
        for thing in NO_WHOLES:
            self.refused(NoFraction, fraction, thing, 1)
            self.refused(NoFraction, fraction, 1, thing)
            self.refused(NoFraction, fraction, thing, 0)
            self.refused(NoFraction, fraction, thing, thing)


class TestReckoning(unittest.TestCase, Refusing):
    def check(self, one, other):
        left, right = Fraction(*one), Fraction(*other)
        self.assertEqual(plus(one, other), pair_of(left + right))
        self.assertEqual(less(one, other), pair_of(left - right))
        self.assertEqual(times(one, other), pair_of(left * right))
        if right == 0:
            self.refused(NoFraction, over, one, other)
        else:
            self.assertEqual(over(one, other), pair_of(left / right))
        self.assertIs(is_below(one, other), left < right)

    def test_plain_ones(self):
        self.assertEqual(plus((1, 2), (1, 3)), (5, 6))
        self.assertEqual(plus((1, 6), (1, 3)), (1, 2))
        self.assertEqual(less((1, 2), (1, 3)), (1, 6))
        self.assertEqual(less((1, 3), (1, 2)), (-1, 6))
        self.assertEqual(times((2, 3), (3, 4)), (1, 2))
        self.assertEqual(over((2, 3), (-4, 3)), (-1, 2))
        self.assertIs(is_below((1, 3), (1, 2)), True)
        self.assertIs(is_below((1, 2), (1, 3)), False)
        self.assertIs(is_below((-1, 2), (-1, 3)), True)

    def test_all_pairs(self):
        made = some_fractions()
        for one in made:
            for other in made:
                self.check(one, other)

    def test_with_itself_and_its_other_sign(self):
        for one in some_fractions():
            top, bottom = one
            other = (-top, bottom)
            self.check(one, other)
            self.assertEqual(plus(one, other), (0, 1))
            self.assertEqual(less(one, one), (0, 1))
            self.assertIs(is_below(one, one), False)
            if top != 0:
                self.assertEqual(over(one, one), (1, 1))
                self.assertEqual(over(one, other), (-1, 1))

    def test_nought(self):
        for one in some_fractions():
            self.assertEqual(plus(one, (0, 1)), one)
            self.assertEqual(less(one, (0, 1)), one)
            self.assertEqual(times(one, (0, 1)), (0, 1))
            self.refused(NoFraction, over, one, (0, 1))

    def test_told_ones_handed_in_again_however_long(self):
        source = dice(6)
        told, known = (1, 3), Fraction(1, 3)
        for round_number in range(120):
            part = Fraction(long_number(source) or 1, long_number(source) or 1)
            told, known = times(plus(told, pair_of(part)), pair_of(part)), (known + part) * part
            self.assertEqual(told, pair_of(known))
            self.assertIs(is_fraction(told), True)
        self.assertGreater(told[1], 10 ** 5000)
        self.check(told, (1, 2))
        self.check((-3, 7), told)
        self.check(told, told)

    def test_told_numbers_handed_in_again_however_long(self):
        top, bottom = times((7, 3), (10 ** 60 - 1, 1))
        for round_number in range(4):
            top, bottom = times((top, bottom), (top, bottom))
        self.assertEqual(fraction(top * 6, bottom * 6), (top, bottom))

    def test_asked_again_the_same_is_told(self):
        for reckoning in RECKONINGS:
            self.assertEqual(reckoning((3, 8), (-5, 12)), reckoning((3, 8), (-5, 12)))

    def test_no_fractions(self):
        for reckoning in RECKONINGS:
            for thing in NO_FRACTIONS:
                self.refused(NoFraction, reckoning, thing, (1, 2))
                self.refused(NoFraction, reckoning, (1, 2), thing)
                self.refused(NoFraction, reckoning, thing, (0, 1))
                self.refused(NoFraction, reckoning, (0, 1), thing)
                self.refused(NoFraction, reckoning, thing, thing)

    def test_what_is_handed_in_stays(self):
        for reckoning in RECKONINGS:
            thing = [1, 2]
            self.refused(NoFraction, reckoning, thing, (1, 2))
            self.assertEqual(thing, [1, 2])


class TestIsFraction(unittest.TestCase):
    def test_fractions(self):
        for one in some_fractions():
            self.assertIs(is_fraction(one), True)

    def test_no_fractions(self):
        for at, thing in enumerate(NO_FRACTIONS):
            self.assertIs(is_fraction(thing), False, at)

    def test_all_small_pairs(self):
        for top in range(-15, 16):
            for bottom in range(-15, 16):
                wanted = bottom >= 1 and gcd(top, bottom) == 1
                self.assertIs(is_fraction((top, bottom)), wanted)
                self.assertIs(is_fraction([top, bottom]), False)


if __name__ == "__main__":
    unittest.main()
