import functools
import itertools
import unittest
from fractions import Fraction

from cranktables.errors import NoDegree, NoTable, NoWithin
from cranktables.joining import joined, runs, steps
from cranktables.nearest import nearest
from cranktables.rules import is_rule
from tests.makers import any_fraction, any_rule, pair_of, plain_worth
from tests.test_fewest import NO_WITHIN
from tests.test_fractions import NO_FRACTIONS
from tests.test_levels import plain_distance, plain_level
from tests.things import NO_WHOLES, Grumpy, Refusing, dice

NO_RUN_DEGREES = NO_WHOLES + [0, -1, -3, 4, 5, 24, 10 ** 59, -10 ** 59, (1, 1), (2, 1)]
NO_LONG_TABLES = [thing for thing in NO_WHOLES if thing.__class__ is not list] + [
    5, [], [(1, 2)], ((1, 2),), ((1, 2), (1, 3)), ((1, 2),) * 24, [(1, 2)] * 25, [(1, 2)] * 26, [(0, 1)] * 100, [1, 2], [0, 1],
    [[1, 2], [1, 3]], [((1, 2), (1, 3))], {(1, 2): 1, (1, 3): 2}, {(1, 2), (1, 3)}, "12", [Grumpy(), Grumpy()],
    *[[thing, (1, 2)] for thing in NO_FRACTIONS],
    *[[(1, 2), thing] for thing in NO_FRACTIONS],
    *[[(1, 2)] * 12 + [thing] + [(1, 3)] * 11 for thing in NO_FRACTIONS],
]


@functools.lru_cache(maxsize=None)
def plain_distance_of(part, degree):
    """The least distance that a rule of at most one fraction more than the degree has: the greatest level."""
    picks = itertools.combinations(range(len(part)), degree + 2)
    return max([plain_level(part, picked) for picked in picks], default=Fraction(0))


def keeps(table, degree, within, first, last):
    return last - first < 10 and plain_distance_of(tuple(table[first:last + 1]), degree) <= within


def plain_runs(table, degree, within):
    """Each run by trying all its last turns."""
    found, first = [], 0
    while first < len(table) - 1:
        last = max(at for at in range(first + 1, len(table)) if keeps(table, degree, within, first, at))
        found.append((first, last))
        first = last
    return found


def fewest_runs(table, degree, within):
    """The least number of runs, as long as can be or not, that lead to each turn: all of them are gone through."""
    least = {0: 0}
    for last in range(1, len(table)):
        least[last] = min(least[first] + 1 for first in range(last) if keeps(table, degree, within, first, last))
    return least[len(table) - 1]


def long_tables(seed):
    """Long tables: of any numbers, of rules and beside rules, of rules put end to end, and alike."""
    source = dice(seed)
    made = []
    for many in (2, 3, 4, 5, 9, 10, 11, 12, 19, 20, 24):
        made.append([(source.randint(-3, 3), 1) for turn in range(many)])
        made.append([any_fraction(source, 2) for turn in range(many)])
        made.append([(5, 7)] * many)
        rule = any_rule(source, source.randint(1, 4), 2)
        made.append([pair_of(plain_worth(rule, turn)) for turn in range(many)])
        made.append([pair_of(plain_worth(rule, turn) + Fraction(source.randint(-2, 2), 9)) for turn in range(many)])
        other = any_rule(source, 2, 1)
        joint = source.randrange(many)
        made.append([pair_of(plain_worth(rule if turn < joint else other, turn)) for turn in range(many)])
        made.append([(turn ** 4, 1) for turn in range(many)])
    return made


class Joints(unittest.TestCase, Refusing):
    def check(self, table, degree, within):
        kept = list(table)
        handed = (table, degree, pair_of(within))
        wanted = plain_runs(table, degree, within)
        told = runs(*handed)
        self.assertIs(type(told), list)
        self.assertTrue(all(type(run) is tuple for run in told))
        self.assertEqual(told, wanted)
        self.assertEqual(told[0][0], 0)
        self.assertEqual(told[-1][1], len(table) - 1)
        self.assertTrue(all(ahead[1] == behind[0] for ahead, behind in zip(told, told[1:])))
        self.assertEqual(len(told), fewest_runs(table, degree, within))
        self.check_joined(handed, told)
        self.check_steps(handed, told, within)
        self.assertEqual(table, kept)
        told.append("more")
        self.assertEqual(runs(*handed), wanted)
        return wanted

    def check_joined(self, handed, found):
        table, degree, within = handed
        told = joined(*handed)
        self.assertIs(type(told), list)
        self.assertEqual([run[:2] for run in told], found)
        for first, last, rule in told:
            part = table[first:last + 1]
            self.assertIs(is_rule(rule), True)
            self.assertEqual(rule, nearest(part, min(degree, len(part) - 1))[0])
            self.assertLessEqual(len(rule), degree + 1)
            self.assertLessEqual(plain_distance(rule, part), Fraction(*within))
        kept = list(told)
        told.clear()
        self.assertEqual(joined(*handed), kept)

    def check_steps(self, handed, found, within):
        told, parts = steps(*handed), joined(*handed)
        self.assertIs(type(told), list)
        self.assertEqual(len(told), len(found) - 1)
        for at, step in enumerate(told):
            first, last, ahead = parts[at]
            apart = abs(plain_worth(ahead, last - first) - plain_worth(parts[at + 1][2], 0))
            self.assertEqual(step, pair_of(apart))
            self.assertLessEqual(apart, 2 * within)
        kept = list(told)
        told.append("more")
        self.assertEqual(steps(*handed), kept)


class TestRuns(Joints):
    def test_plain_ones(self):
        roof = [(0, 1), (1, 1), (2, 1), (1, 1), (0, 1)]
        self.assertEqual(runs(roof, 1, (0, 1)), [(0, 2), (2, 4)])
        self.assertEqual(joined(roof, 1, (0, 1)), [(0, 2, ((0, 1), (1, 1))), (2, 4, ((2, 1), (-1, 1)))])
        self.assertEqual(steps(roof, 1, (0, 1)), [(0, 1)])
        self.assertEqual(runs(roof, 1, (1, 1)), [(0, 4)])
        self.assertEqual(steps(roof, 1, (1, 1)), [])
        # From 0 to 3 each line is off by two thirds at least, and that is just within.
        self.assertEqual(runs(roof, 1, (2, 3)), [(0, 3), (3, 4)])
        self.assertEqual(joined(roof, 1, (2, 3)), [(0, 3, ((2, 3), (1, 3))), (3, 4, ((1, 1), (-1, 1)))])
        self.assertEqual(steps(roof, 1, (2, 3)), [(2, 3)])
        self.assertEqual(runs(roof, 1, (665, 998)), [(0, 2), (2, 4)])
        self.assertEqual(runs([(0, 1), (5, 1)], 3, (0, 1)), [(0, 1)])
        self.assertEqual(joined([(0, 1), (5, 1)], 3, (0, 1)), [(0, 1, ((0, 1), (5, 1)))])
        self.assertEqual(steps([(0, 1), (5, 1)], 3, (0, 1)), [])

    def test_two_fractions(self):
        source = dice(261)
        for degree in (1, 2, 3):
            for within in (Fraction(0), Fraction(1, 3), Fraction(10 ** 59)):
                for again in range(5):
                    table = [any_fraction(source, 9), any_fraction(source, 60)]
                    self.assertEqual(self.check(table, degree, within), [(0, 1)])
                self.assertEqual(self.check([(4, 3), (4, 3)], degree, within), [(0, 1)])

    def test_runs_of_ten_turns(self):
        source = dice(262)
        for degree in (1, 2, 3):
            for many in (9, 10, 11, 12, 18, 19, 20, 23, 24):
                rule = any_rule(source, source.randint(1, degree + 1), 3)
                table = [pair_of(plain_worth(rule, turn)) for turn in range(many)]
                wanted = [(first, min(first + 9, many - 1)) for first in range(0, many - 1, 9)]
                self.assertEqual(self.check(table, degree, Fraction(0)), wanted)
                parts = joined(table, degree, (0, 1))
                for first, last, told in parts:
                    for turn in range(last - first + 1):
                        self.assertEqual(plain_worth(told, turn), plain_worth(rule, first + turn))
                self.assertEqual(steps(table, degree, (0, 1)), [(0, 1)] * (len(wanted) - 1))

    def test_runs_as_short_as_can_be(self):
        # With a great step up or down at each turn no line keeps three turns, and so on.
        for degree in (1, 2, 3):
            for many in (2, 3, 4, 5, 6, 7, 13, 24):
                table = [((-1) ** turn * 4 ** turn, 1) for turn in range(many)]
                wanted = [(first, min(first + degree, many - 1)) for first in range(0, many - 1, degree)]
                self.assertEqual(self.check(table, degree, Fraction(0)), wanted)

    def test_a_last_run_with_fewer_turns_than_the_rule_may_have_fractions(self):
        table = [(turn ** 5, 1) for turn in range(8)]
        self.assertEqual(self.check(table, 3, Fraction(0)), [(0, 3), (3, 6), (6, 7)])
        self.assertEqual(joined(table, 3, (0, 1))[2], (6, 7, ((7776, 1), (9031, 1))))
        table = [(turn ** 5, 1) for turn in range(6)]
        self.assertEqual(self.check(table, 3, Fraction(0)), [(0, 3), (3, 5)])
        self.assertEqual(len(joined(table, 3, (0, 1))[1][2]), 3)

    def test_just_the_level_at_some_turns(self):
        found = set()
        for table in long_tables(263)[::3]:
            for degree in (1, 2, 3):
                for size in (degree + 2, 10):
                    if size <= len(table):
                        aside = plain_distance_of(tuple(table[:size]), degree)
                        told = self.check(table, degree, aside)
                        self.assertGreaterEqual(told[0][1], size - 1)
                        if aside > 0:
                            fewer = self.check(table, degree, aside - aside / 10 ** 12)
                            self.assertLess(fewer[0][1], size - 1)
                            found.add(len(fewer))
        self.assertGreater(len(found), 5)

    def test_some_tables(self):
        source = dice(264)
        for table in long_tables(265)[1::2]:
            for within in (Fraction(0), Fraction(source.randint(1, 9), source.randint(1, 9)), Fraction(30)):
                self.check(table, source.choice((1, 2, 3)), within)

    def test_no_other_runs_are_fewer(self):
        """All ways to part small tables into runs, each tried by itself."""
        for tops in itertools.product((0, 1, 3), repeat=6):
            table = [(top, 1) for top in tops]
            for degree, within in ((1, Fraction(0)), (1, Fraction(1, 2)), (2, Fraction(1, 4))):
                found = len(runs(table, degree, pair_of(within)))
                for size in range(5):
                    for joints in itertools.combinations(range(1, 5), size):
                        ends = (0,) + joints + (5,)
                        if all(keeps(table, degree, within, *pair) for pair in zip(ends, ends[1:])):
                            self.assertLessEqual(found, size + 1)

    def test_steps_of_just_twice_within(self):
        # Level lines, the first one above what is wanted at the joint, the other one below, both by just within.
        table = [(2, 1), (4, 1), (2, 1), (0, 1), (2, 1)]
        self.assertEqual(self.check(table, 1, Fraction(1)), [(0, 2), (2, 4)])
        self.assertEqual(joined(table, 1, (1, 1)), [(0, 2, ((3, 1),)), (2, 4, ((1, 1),))])
        self.assertEqual(steps(table, 1, (1, 1)), [(2, 1)])

    def test_long_fractions(self):
        source = dice(266)
        for many in (2, 5, 24):
            table = [any_fraction(source, 60) for turn in range(many)]
            for degree in (1, 3):
                parts = joined(table, degree, (1, 7))
                self.assertEqual([run[:2] for run in parts], runs(table, degree, (1, 7)))
                # What was told may be handed in again, however long.
                again = [pair_of(plain_worth(parts[0][2], turn)) for turn in range(many)]
                self.assertEqual(joined(again, degree, (0, 1))[0][2], parts[0][2])

    def test_refusals(self):
        wrong = [(NoTable, 0, NO_LONG_TABLES), (NoDegree, 1, NO_RUN_DEGREES), (NoWithin, 2, NO_WITHIN)]
        for function in (runs, joined, steps):
            for many in (2, 24):
                for degree in (1, 3):
                    self.refused_in_order(function, [[(1, 2)] * many, degree, (0, 1)], wrong)

    def test_lists_stay_as_they_were(self):
        for function in (runs, joined, steps):
            table = [(1, 2), (2, 4)]
            self.refused(NoTable, function, table, 1, (0, 1))
            self.assertEqual(table, [(1, 2), (2, 4)])


if __name__ == "__main__":
    unittest.main()
