import math
import unittest
from fractions import Fraction

from cranktables.errors import NoBase, NoRule, NoStart
from cranktables.rules import differences, is_rule, least_places, worth
from tests.makers import any_rule, pair_of, plain_differences, plain_worth, some_rules
from tests.test_figures import NO_BASES
from tests.test_fractions import NO_FRACTIONS
from tests.things import NO_WHOLES, Grumpy, Refusing, dice

MOST = 10 ** 30 - 1
PLACES_AT = (0, 1, -1, 2, -2, 5, -7, 13, 200, -1000, 10 ** 15, -10 ** 15, MOST, -MOST, 1 - MOST, 10 ** 29)

NO_STARTS = NO_WHOLES + [(0, 1), (3, 2), 10 ** 30, -10 ** 30, 10 ** 30 + 1, 10 ** 31 - 1, 1 - 10 ** 31, 10 ** 59, -10 ** 59]

NO_RULES = [
    *NO_WHOLES, 0, 1, 7, (1, 2), (0, 1), (1, 1), [(1, 2)], [(0, 1), (1, 1)], [[1, 2]], ([1, 2],), ((0, 1), [1, 1]), "12",
    ((1, 2),) * 9, ((1, 1),) * 10, ((1, 1),) * 100, ((0, 1),) * 8, ((0, 1),) * 9,
    ((0, 1), (0, 1)), ((1, 1), (0, 1)), ((1, 2), (1, 3), (0, 1)), ((1, 1),) * 7 + ((0, 1),), ((1, 1),) * 8 + ((0, 1),),
    (((1, 2),),), ((((1, 2), (1, 3)),)), (((1, 2), 1),), ((1, (1, 2)),), ((0, 1), ((1, 2), (1, 3))), {(1, 2): 1}, {(1, 2)},
    *[(thing,) for thing in NO_FRACTIONS],
    *[((1, 2), thing, (1, 3)) for thing in NO_FRACTIONS],
    *[((1, 2), (1, 3), thing) for thing in NO_FRACTIONS],
    (Grumpy(),), ((1, 2), Grumpy()),
]


def plain_least_places(rule, base):
    """The least power of the base that frees as many worths in a row of their bottoms, by trying."""
    bottom = math.lcm(*[plain_worth(rule, x).denominator for x in range(-3, len(rule) + 3)])
    for places in range(bottom.bit_length() + 1):
        if base ** places % bottom == 0:
            return places
    return None


class TestIsRule(unittest.TestCase):
    def test_rules(self):
        for rule in some_rules(101):
            self.assertIs(is_rule(rule), True)
            self.assertIs(is_rule(rule), True)

    def test_nought_at_the_end(self):
        self.assertIs(is_rule(((0, 1),)), True)
        for many in range(2, 9):
            self.assertIs(is_rule(((0, 1),) * (many - 1) + ((1, 3),)), True)
            self.assertIs(is_rule(((1, 3),) * (many - 1) + ((0, 1),)), False)
            self.assertIs(is_rule(((0, 1),) * many), False)

    def test_one_to_eight(self):
        for many in range(1, 9):
            self.assertIs(is_rule(((-1, 2),) * many), True)
        for many in (0, 9, 10, 40):
            self.assertIs(is_rule(((-1, 2),) * many), False)

    def test_no_rules(self):
        for thing in NO_RULES:
            self.assertIs(is_rule(thing), False)

    def test_lists_stay_as_they_were(self):
        thing = [[1, 2], (1, 3)]
        self.assertIs(is_rule(thing), False)
        self.assertEqual(thing, [[1, 2], (1, 3)])


class TestWorth(unittest.TestCase, Refusing):
    def test_plain_ones(self):
        self.assertEqual(worth(((1, 2), (1, 3), (1, 4)), 2), (13, 6))
        self.assertEqual(worth(((1, 2), (1, 3), (1, 4)), -2), (5, 6))
        self.assertEqual(worth(((1, 2), (1, 3), (1, 4)), 0), (1, 2))
        self.assertEqual(worth(((0, 1),), 99), (0, 1))
        self.assertEqual(worth(((41, 1), (1, 1), (1, 1)), 10), (151, 1))
        self.assertEqual(worth(((0, 1), (1, 2), (1, 2)), 7), (28, 1))

    def test_some_rules(self):
        for rule in some_rules(102):
            for x in PLACES_AT:
                told = worth(rule, x)
                self.assertIs(type(told), tuple)
                self.assertEqual(told, pair_of(plain_worth(rule, x)))
                self.assertEqual(worth(rule, x), told)

    def test_refusals(self):
        rule = ((1, 2), (1, 3), (1, 4))
        for function in (worth, differences):
            for x in (MOST, -MOST):
                function(rule, x)
            self.refused_in_order(function, [rule, 5], [(NoRule, 0, NO_RULES), (NoStart, 1, NO_STARTS)])


class TestDifferences(unittest.TestCase):
    def test_plain_ones(self):
        self.assertEqual(differences(((41, 1), (1, 1), (1, 1)), 0), [(41, 1), (2, 1), (2, 1)])
        self.assertEqual(differences(((41, 1), (1, 1), (1, 1)), -2), [(43, 1), (-2, 1), (2, 1)])
        self.assertEqual(differences(((0, 1), (0, 1), (1, 2)), 3), [(9, 2), (7, 2), (1, 1)])
        self.assertEqual(differences(((2, 7),), MOST), [(2, 7)])

    def test_some_rules(self):
        for rule in some_rules(103):
            for x in PLACES_AT:
                told = differences(rule, x)
                self.assertIs(type(told), list)
                self.assertEqual(told, [pair_of(part) for part in plain_differences(rule, x)])
                self.assertTrue(all(type(part) is tuple for part in told))
                kept = list(told)
                told[0] = "changed"
                told.append("more")
                self.assertEqual(differences(rule, x), kept)


class TestLeastPlaces(unittest.TestCase, Refusing):
    def test_plain_ones(self):
        self.assertEqual(least_places(((1, 1), (2, 1)), 10), 0)
        self.assertEqual(least_places(((0, 1),), 2), 0)
        self.assertEqual(least_places(((1, 4),), 10), 2)
        self.assertEqual(least_places(((1, 4),), 2), 2)
        self.assertEqual(least_places(((1, 4),), 4), 1)
        self.assertEqual(least_places(((1, 4),), 6), 2)
        self.assertEqual(least_places(((1, 4),), 16), 1)
        self.assertEqual(least_places(((1, 8),), 4), 2)
        self.assertEqual(least_places(((1, 32),), 16), 2)
        self.assertEqual(least_places(((1, 3),), 10), None)
        self.assertEqual(least_places(((1, 3),), 9), 1)
        self.assertEqual(least_places(((1, 27),), 9), 2)
        self.assertEqual(least_places(((1, 6),), 10), None)
        self.assertEqual(least_places(((1, 72),), 12), 2)
        self.assertEqual(least_places(((1, 72),), 6), 3)
        self.assertEqual(least_places(((1, 2), (1, 3), (1, 25)), 15), None)

    def test_fewer_than_single_fractions_ask_for(self):
        # x and x times x, halved: whole at each x.
        self.assertEqual(least_places(((0, 1), (1, 2), (1, 2)), 10), 0)
        self.assertEqual(least_places(((0, 1), (1, 2), (1, 2)), 3), 0)
        self.assertEqual(least_places(((0, 1), (1, 20), (1, 20)), 10), 1)
        self.assertEqual(least_places(((0, 1), (1, 40), (1, 40)), 10), 2)
        self.assertEqual(least_places(((0, 1), (-1, 6), (0, 1), (1, 6)), 10), 0)
        self.assertEqual(least_places(((0, 1), (-1, 60), (0, 1), (1, 60)), 10), 1)
        self.assertEqual(least_places(((0, 1), (-1, 18), (0, 1), (1, 18)), 10), None)

    def test_several_fractions_together(self):
        self.assertEqual(least_places(((1, 2), (1, 3)), 6), 1)
        self.assertEqual(least_places(((1, 4), (1, 3)), 6), 2)
        self.assertEqual(least_places(((1, 3), (1, 1), (1, 8)), 12), 2)
        self.assertEqual(least_places(((1, 5), (1, 2), (1, 25), (1, 1)), 10), 2)
        self.assertEqual(least_places(((1, 5), (1, 7), (1, 2)), 14), None)

    def test_many_places(self):
        self.assertEqual(least_places(((1, 2 ** 70),), 2), 70)
        self.assertEqual(least_places(((1, 2 ** 71),), 2), 71)
        self.assertEqual(least_places(((0, 1), (1, 2 ** 190)), 2), 190)
        self.assertEqual(least_places(((0, 1), (1, 2 ** 190)), 10), 190)
        self.assertEqual(least_places(((0, 1), (1, 2 ** 190)), 8), 64)
        self.assertEqual(least_places(((1, 3), (1, 3 ** 120)), 15), 120)

    def test_some_rules(self):
        for rule in some_rules(104):
            for base in range(2, 17):
                self.assertEqual(least_places(rule, base), plain_least_places(rule, base))

    def test_rules_whose_bottoms_the_base_frees(self):
        source = dice(105)
        found = set()
        for many in range(1, 9):
            for base in range(2, 17):
                for again in range(4):
                    bottoms = [base ** source.randint(0, 3) * source.choice((1, 1, 1, 2, 3, 6)) for part in range(many)]
                    rule = tuple(pair_of(Fraction(source.randint(1, 40), bottom)) for bottom in bottoms)
                    told = least_places(rule, base)
                    self.assertEqual(told, plain_least_places(rule, base))
                    self.assertEqual(least_places(rule, base), told)
                    found.add(told)
        self.assertLessEqual({0, 1, 2, 3, None}, found)

    def test_no_more_than_the_fractions_ask_for(self):
        source = dice(106)
        for many in range(2, 9):
            for base in (6, 10, 12):
                rule = tuple(pair_of(Fraction(source.randint(1, 9), base ** source.randint(0, 4))) for part in range(many))
                asked = [least_places((part,), base) for part in rule]
                self.assertLessEqual(least_places(rule, base), max(asked))

    def test_refusals(self):
        rule = any_rule(dice(107), 4)
        self.refused_in_order(least_places, [rule, 10], [(NoRule, 0, NO_RULES), (NoBase, 1, NO_BASES)])


if __name__ == "__main__":
    unittest.main()
