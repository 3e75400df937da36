import itertools
import unittest
from fractions import Fraction

from cranktables.errors import NoPicked, NoRule, NoTable
from cranktables.levels import distance, level
from cranktables.rules import worth
from tests.makers import any_fraction, any_rule, pair_of, plain_worth, some_rules
from tests.test_fractions import NO_FRACTIONS
from tests.test_rules import NO_RULES
from tests.things import NO_WHOLES, Grumpy, Refusing, dice

NO_TABLES = [thing for thing in NO_WHOLES if thing.__class__ is not list] + [
    5, [], ((1, 2),), ((1, 2), (1, 3)), [(1, 2)] * 11, [(1, 2)] * 12, [(0, 1)] * 100, [5], [1, 2], [0, 1], [[1, 2]],
    [(1, 2), [1, 3]], [((1, 2),)], {(1, 2): 1}, {(1, 2)}, "12", [Grumpy()],
    *[[thing] for thing in NO_FRACTIONS],
    *[[(1, 2), thing] for thing in NO_FRACTIONS],
    *[[(1, 2)] * 4 + [thing] + [(1, 3)] * 5 for thing in NO_FRACTIONS],
]


def no_picked(many):
    """What is no rising list of two to six turns of a table with so many fractions."""
    return [thing for thing in NO_WHOLES if thing.__class__ is not list] + [
        5, [], [0], [1], [many - 1], (0, 1), (0, 1, 2), ((0, 1),), [1, 0], [0, 2, 1], [2, 1, 0], [0, 0], [1, 1], [0, 1, 1],
        [0, 0, 1], [0, many], [0, 1, many], [many, many + 1], [0, many + 5], [0, 10 ** 59], [-1, 0], [-1, 1], [-2, -1], [0, -1],
        [-10 ** 59, 0], list(range(7)), list(range(8)), [0, 1, 2, 3, 4, 5, 5], [0, True], [False, 1], [False, True], [True, 2],
        [0, None], [None, 1], ["0", "1"], [0, "1"], [0, 1.0], [0.0, 1], [0, 1.5], [[0, 1]], [0, [1]], [(0, 1)], [0, (1, 1)],
        [(0, 1), (1, 1)], [Grumpy(), Grumpy()], [0, Grumpy()], {0: 1, 1: 2}, {0, 1}, range(2), "01",
    ]


def plain_level(table, turns):
    """The level by its own words."""
    weights = []
    for turn in turns:
        product = 1
        for other in turns:
            if other != turn:
                product *= turn - other
        weights.append(Fraction(1, product))
    wanted = [Fraction(*table[turn]) for turn in turns]
    return abs(sum(w * f for w, f in zip(weights, wanted))) / sum(abs(w) for w in weights)


def plain_distance(rule, table):
    return max(abs(plain_worth(rule, turn) - Fraction(*wanted)) for turn, wanted in enumerate(table))


def some_tables(seed):
    """Tables of one to ten fractions: small, alike, by turns, of a rule's worths, and long ones."""
    source = dice(seed)
    made = []
    for many in range(1, 11):
        made.append([(source.randint(-3, 3), 1) for turn in range(many)])
        made.append([source.choice(((0, 1), (1, 1))) for turn in range(many)])
        made.append([pair_of(Fraction(source.randint(-9, 9), source.randint(1, 9))) for turn in range(many)])
        made.append([any_fraction(source, 3)] * many)
        made.append([((-1) ** turn, 2) for turn in range(many)])
        made.append([any_fraction(source, 60) for turn in range(many)])
        rule = any_rule(source, source.randint(1, 5), 2)
        made.append([pair_of(plain_worth(rule, turn)) for turn in range(many)])
        made.append([pair_of(plain_worth(rule, turn) + Fraction(source.randint(-1, 1), 7)) for turn in range(many)])
        made.append([(turn ** 5, 1) for turn in range(many)])
    return made


class TestLevel(unittest.TestCase, Refusing):
    def test_plain_ones(self):
        self.assertEqual(level([(0, 1), (1, 1)], [0, 1]), (1, 2))
        self.assertEqual(level([(1, 1), (0, 1)], [0, 1]), (1, 2))
        self.assertEqual(level([(5, 3), (9, 1), (2, 3)], [0, 2]), (1, 2))
        self.assertEqual(level([(0, 1), (1, 1), (4, 1)], [0, 1, 2]), (1, 2))
        self.assertEqual(level([(0, 1), (1, 1), (2, 1)], [0, 1, 2]), (0, 1))
        # The weights at 0, 1 and 3 are 1/3, -1/2 and 1/6.
        self.assertEqual(level([(1, 1), (0, 1), (8, 1), (0, 1)], [0, 1, 3]), (1, 3))
        self.assertEqual(level([(0, 1), (1, 1), (8, 1), (0, 1)], [0, 1, 3]), (1, 2))

    def test_some_tables(self):
        for table in some_tables(161):
            kept = list(table)
            for size in range(2, 7):
                for picked in list(itertools.combinations(range(len(table)), size))[::3]:
                    turns = list(picked)
                    told = level(table, turns)
                    self.assertIs(type(told), tuple)
                    self.assertEqual(told, pair_of(plain_level(table, turns)))
                    self.assertEqual(turns, list(picked))
                    self.assertEqual(level(table, turns), told)
            self.assertEqual(table, kept)

    def test_all_turns_of_a_whole_table(self):
        table = [(7, 3), (-1, 1), (0, 1), (2, 5), (2, 5), (9, 2)]
        for size in range(2, 7):
            for picked in itertools.combinations(range(6), size):
                self.assertEqual(level(table, list(picked)), pair_of(plain_level(table, picked)))

    def test_refusals(self):
        for many in (6, 7, 10):
            wrong = [(NoTable, 0, NO_TABLES), (NoPicked, 1, no_picked(many))]
            self.refused_in_order(level, [[(1, 2)] * many, [0, 1, 2, 3, 4, many - 1]], wrong)

    def test_a_table_of_one_has_no_two_turns(self):
        for turns in ([], [0], [0, 1], [0, 0]):
            self.refused(NoPicked, level, [(1, 2)], turns)

    def test_lists_stay_as_they_were(self):
        table, turns = [(1, 2), (2, 4)], [1, 0]
        self.refused(NoTable, level, table, turns)
        self.refused(NoTable, distance, ((1, 2),), table)
        self.refused(NoPicked, level, [(1, 2), (1, 3)], turns)
        self.assertEqual((table, turns), ([(1, 2), (2, 4)], [1, 0]))


class TestDistance(unittest.TestCase, Refusing):
    def test_plain_ones(self):
        self.assertEqual(distance(((0, 1),), [(0, 1)]), (0, 1))
        self.assertEqual(distance(((1, 2),), [(0, 1), (1, 3)]), (1, 2))
        self.assertEqual(distance(((0, 1), (1, 1)), [(0, 1), (3, 1), (1, 1)]), (2, 1))
        self.assertEqual(distance(((0, 1), (1, 1)), [(0, 1), (-3, 1), (1, 1)]), (4, 1))
        self.assertEqual(distance(((0, 1), (0, 1), (1, 1)), [(1, 7)] * 10), (566, 7))
        self.assertEqual(distance(((0, 1),), [(-5, 2), (2, 1)]), (5, 2))
        self.assertEqual(distance(((0, 1),), [(2, 1), (-5, 2)]), (5, 2))

    def test_some_rules_and_tables(self):
        source = dice(162)
        tables = some_tables(163)
        for rule in some_rules(164):
            for table in source.sample(tables, 20):
                kept = list(table)
                told = distance(rule, table)
                self.assertIs(type(told), tuple)
                self.assertEqual(told, pair_of(plain_distance(rule, table)))
                self.assertEqual(distance(rule, table), told)
                self.assertEqual(table, kept)

    def test_a_table_of_its_own_worths(self):
        for rule in some_rules(165):
            for many in range(1, 11):
                table = [worth(rule, turn) for turn in range(many)]
                self.assertEqual(distance(rule, table), (0, 1))
                table[-1] = pair_of(Fraction(*table[-1]) - Fraction(1, 3))
                self.assertEqual(distance(rule, table), (1, 3))

    def test_refusals(self):
        wrong = [(NoRule, 0, NO_RULES), (NoTable, 1, NO_TABLES)]
        self.refused_in_order(distance, [((1, 2), (1, 3)), [(1, 2)] * 10], wrong)


if __name__ == "__main__":
    unittest.main()
