import itertools
import unittest
from fractions import Fraction

from cranktables.errors import NoDegree, NoTable
from cranktables.levels import distance
from cranktables.nearest import nearest
from cranktables.rules import is_rule
from tests.makers import any_fraction, any_rule, pair_of, plain_worth
from tests.test_levels import NO_TABLES, plain_distance, plain_level, some_tables
from tests.things import NO_WHOLES, Refusing, dice


def no_degrees(many):
    """What is no degree for a table of so many fractions."""
    return NO_WHOLES + [-1, -2, -5, 5, 6, 10, 10 ** 59, -10 ** 59, (1, 1), (2, 1)] + list(range(many, 5))


def degrees_of(table):
    return range(min(4, len(table) - 1) + 1)


def by_turns(rule, table, picked, apart):
    """Whether what is wanted at these turns is by turns above and below the worth by just so much."""
    asides = [Fraction(*table[turn]) - plain_worth(rule, turn) for turn in picked]
    return asides in ([apart * (-1) ** k for k in range(len(picked))], [-apart * (-1) ** k for k in range(len(picked))])


class TestNearest(unittest.TestCase, Refusing):
    def check(self, table, degree):
        kept = list(table)
        told = nearest(table, degree)
        self.assertIs(type(told), tuple)
        self.assertEqual(len(told), 3)
        rule, apart, turns = told
        self.assertIs(is_rule(rule), True)
        self.assertLessEqual(len(rule), degree + 1)
        self.assertEqual(apart, pair_of(plain_distance(rule, table)))
        self.assertEqual(apart, distance(rule, table))
        self.assertIs(type(turns), list)
        self.check_turns(table, degree, *told)
        self.assertEqual(table, kept)
        again = nearest(table, degree)
        self.assertEqual(again, told)
        again[2].append("more")
        self.assertEqual(nearest(table, degree), told)
        return told

    def check_turns(self, table, degree, rule, apart, turns):
        picks = list(itertools.combinations(range(len(table)), degree + 2))
        levels = [plain_level(table, picked) for picked in picks]
        greatest = max(levels, default=Fraction(0))
        self.assertEqual(apart, pair_of(greatest))
        if greatest == 0:
            self.assertEqual(turns, [])
        else:
            self.assertEqual(turns, list(picks[levels.index(greatest)]))
            first = [picked for picked in picks if by_turns(rule, table, picked, greatest)][0]
            self.assertEqual(turns, list(first))

    def test_plain_ones(self):
        self.assertEqual(nearest([(0, 1), (1, 1)], 0), (((1, 2),), (1, 2), [0, 1]))
        self.assertEqual(nearest([(0, 1), (1, 1)], 1), (((0, 1), (1, 1)), (0, 1), []))
        self.assertEqual(nearest([(0, 1), (1, 1), (4, 1)], 1), (((-1, 2), (2, 1)), (1, 2), [0, 1, 2]))
        self.assertEqual(nearest([(0, 1), (1, 1), (4, 1), (9, 1)], 1), (((-1, 1), (3, 1)), (1, 1), [0, 1, 3]))
        self.assertEqual(nearest([(0, 1), (1, 1), (4, 1)], 2), (((0, 1), (0, 1), (1, 1)), (0, 1), []))
        self.assertEqual(nearest([(5, 7)], 0), (((5, 7),), (0, 1), []))
        self.assertEqual(nearest([(5, 7)] * 10, 4), (((5, 7),), (0, 1), []))
        self.assertEqual(nearest([(0, 1)] * 3, 1), (((0, 1),), (0, 1), []))

    def test_the_first_of_several_lists(self):
        self.assertEqual(nearest([(0, 1), (1, 1), (0, 1), (1, 1)], 0), (((1, 2),), (1, 2), [0, 1]))
        self.assertEqual(nearest([(0, 1), (0, 1), (1, 1), (0, 1)], 0), (((1, 2),), (1, 2), [0, 2]))
        table = [((-1) ** turn, 1) for turn in range(10)]
        for degree in range(5):
            rule, apart, turns = self.check(table, degree)
            self.assertEqual((rule, apart, turns), (((0, 1),), (1, 1), list(range(degree + 2))))

    def test_a_rule_of_fewer_fractions_than_the_degree_lets(self):
        # The nearest straight line is level, and nothing is left of what stands ahead of x.
        self.assertEqual(nearest([(0, 1), (1, 1), (0, 1)], 1), (((1, 2),), (1, 2), [0, 1, 2]))
        self.assertEqual(nearest([(1, 1), (-1, 1), (1, 1), (-1, 1)], 2), (((0, 1),), (1, 1), [0, 1, 2, 3]))

    def test_some_tables(self):
        for table in some_tables(171) + some_tables(172):
            for degree in degrees_of(table):
                self.check(table, degree)

    def test_all_tables_of_small_numbers(self):
        for many in (1, 2, 3, 4):
            for tops in itertools.product((-1, 0, 2), repeat=many):
                table = [(top, 1) for top in tops]
                for degree in degrees_of(table):
                    self.check(table, degree)

    def test_a_table_of_a_rule(self):
        source = dice(173)
        for many in range(1, 11):
            for degree in degrees_of([(0, 1)] * many):
                for size in range(1, degree + 2):
                    rule = any_rule(source, size, 5)
                    table = [pair_of(plain_worth(rule, turn)) for turn in range(many)]
                    self.assertEqual(self.check(table, degree), (rule, (0, 1), []))

    def test_as_many_turns_as_the_rule_may_have_fractions(self):
        source = dice(174)
        for many in range(1, 6):
            table = [any_fraction(source, 4) for turn in range(many)]
            self.assertEqual(self.check(table, many - 1)[1:], ((0, 1), []))

    def test_fractions_of_sixty_figures(self):
        source = dice(175)
        for many in (5, 9, 10):
            table = [
                pair_of(Fraction(source.choice((1, -1)) * source.randrange(10 ** 59, 10 ** 60), source.randrange(10 ** 59, 10 ** 60)))
                for turn in range(many)
            ]
            for degree in degrees_of(table):
                rule, apart, turns = self.check(table, degree)
                # What was told may be handed in again, however long.
                shown = [pair_of(plain_worth(rule, turn)) for turn in range(many)]
                self.assertEqual(nearest(shown, degree), (rule, (0, 1), []))

    def test_other_rules_are_further(self):
        source = dice(176)
        for table in some_tables(177):
            for degree in degrees_of(table):
                rule, apart, turns = nearest(table, degree)
                parts = [Fraction(*part) for part in rule] + [Fraction(0)] * (degree + 1 - len(rule))
                for again in range(6):
                    size = source.choice((Fraction(1), Fraction(1, 100), Fraction(1, 10 ** 9)))
                    other = [part + size * source.randint(-3, 3) for part in parts]
                    if other != parts:
                        further = plain_distance([pair_of(part) for part in other], table)
                        self.assertGreater(further, Fraction(*apart))

    def test_refusals(self):
        for many in (1, 2, 3, 4, 5, 10):
            wrong = [(NoTable, 0, NO_TABLES), (NoDegree, 1, no_degrees(many))]
            self.refused_in_order(nearest, [[(1, 2)] * many, min(many - 1, 4)], wrong)

    def test_lists_stay_as_they_were(self):
        table = [(1, 2), (2, 4)]
        self.refused(NoTable, nearest, table, 1)
        self.assertEqual(table, [(1, 2), (2, 4)])


if __name__ == "__main__":
    unittest.main()
