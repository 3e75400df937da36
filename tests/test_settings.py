import unittest
from fractions import Fraction
from math import factorial

from cranktables.engines import Engine
from cranktables.errors import NoBase, NoPlaces, NoRule, NoStart, NotWhole, NoValues, NoWheels
from cranktables.rules import is_rule, least_places
from cranktables.settings import by_values, fewest_columns, rule_of, setting
from cranktables.standing import shows, stands
from cranktables.turning import turned
from tests.makers import (
    any_columns, any_rule, known, pair_of, plain_column, plain_differences, plain_numbers, plain_worth, some_engines,
)
from tests.test_figures import NO_BASES, NO_WHEELS, plain_number
from tests.test_rules import MOST, NO_RULES, NO_STARTS
from tests.things import NO_WHOLES, Grumpy, Refusing, dice, long_number

STARTS = (0, 1, -1, 2, -5, 17, -400, 10 ** 12 + 3, MOST, -MOST, 10 ** 29, -10 ** 29 - 7)
NO_PLACES = NO_WHOLES + [-1, -2, -70, 71, 72, 1000, 10 ** 59, -10 ** 59]
NO_VALUES = [thing for thing in NO_WHOLES if thing.__class__ is not list] + [
    [], (1, 2), ((1, 2),), 5, [1] * 9, [1] * 10, [0] * 100, [True], [False, 1], [1, True], [1, None], [None], ["1"], [1, "2"],
    [1.0], [1, 2.5], [(1, 1)], [1, (2, 1)], [[1]], [[1, 2]], [1, [2]], [Grumpy()], [1, Grumpy()], {1: 1}, {1, 2}, range(3), "12",
]


def plain_reading(column, base):
    number, modulus = plain_number(column, base), base ** len(column)
    return number - modulus if 2 * number >= modulus else number


def whole_rules(seed):
    """Rules with a base, places and a start with which all worths are whole."""
    source = dice(seed)
    for many in range(1, 9):
        for base in (2, 3, 6, 10, 12, 16):
            for start in (source.choice(STARTS), source.choice(STARTS), source.randint(-MOST, MOST)):
                places = source.choice((0, 0, 1, 2, 5, 19, 70))
                bottoms = [base ** source.randint(0, places) for part in range(many)]
                rule = tuple(pair_of(Fraction(long_number(source, 9) or 1, bottom)) for bottom in bottoms)
                yield rule, base, source.choice((1, 2, 7, 20, 40)), places, start


class TestSetting(unittest.TestCase, Refusing):
    def check(self, rule, base, wheels, places, start):
        handed = (rule, base, wheels, places, start)
        told = setting(*handed)
        self.assertIs(type(told), Engine)
        self.assertEqual((told.base(), told.wheels(), len(told.columns())), (base, wheels, len(rule)))
        for m in (0, 1, 2, 3, 4, 5, 6, 7, 8, 9, 50, 199, 200, -1, -2, -3, -8, -200):
            shown = plain_worth(rule, start + m) * base ** places
            self.assertEqual(shown.denominator, 1)
            self.assertEqual(turned(told, m).column(0), plain_column(shown.numerator, base, wheels), m)
        for k in range(len(rule)):
            difference = plain_differences(rule, start - k // 2)[k] * base ** places
            self.assertEqual(difference.denominator, 1)
            self.assertEqual(told.column(k), plain_column(difference.numerator, base, wheels), k)
        self.assertEqual(known(setting(*handed)), known(told))

    def test_plain_ones(self):
        squares = ((0, 1), (0, 1), (1, 1))
        self.assertEqual(setting(squares, 10, 3, 0, 0).columns(), [(0, 0, 0), (0, 0, 1), (0, 0, 2)])
        self.assertEqual(setting(squares, 10, 3, 1, 0).columns(), [(0, 0, 0), (0, 1, 0), (0, 2, 0)])
        self.assertEqual(setting(squares, 10, 3, 0, -2).columns(), [(0, 0, 4), (9, 9, 7), (0, 0, 2)])
        self.assertEqual(setting(((0, 1),), 2, 1, 70, MOST).columns(), [(0,)])
        self.assertEqual(setting(((-1, 4),), 10, 4, 2, 0).columns(), [(9, 9, 7, 5)])
        # The difference number 2 is told of the start less 1, and so is number 3.
        cubes = ((0, 1), (0, 1), (0, 1), (1, 1))
        self.assertEqual(setting(cubes, 10, 3, 0, 0).columns(), [(0, 0, 0), (0, 0, 1), (0, 0, 0), (0, 0, 6)])

    def test_whole_rules(self):
        for handed in whole_rules(111):
            self.check(*handed)

    def test_each_start(self):
        for start in STARTS:
            self.check(((5, 2), (-3, 4), (1, 8), (0, 1), (7, 2)), 10, 11, 3, start)

    def test_whole_although_the_fractions_are_not(self):
        for start in STARTS:
            self.check(((0, 1), (1, 2), (1, 2)), 10, 8, 0, start)
            self.check(((0, 1), (-1, 6), (0, 1), (1, 6)), 7, 8, 0, start)
            self.check(((0, 1), (-1, 18), (0, 1), (1, 18)), 3, 8, 1, start)

    def test_m_turns_far_on(self):
        rule = ((5, 1), (-3, 1), (2, 1), (0, 1), (1, 1))
        engine = setting(rule, 10, 40, 2, -MOST)
        for m in (MOST, -MOST, 10 ** 20, 1 - 10 ** 29):
            wanted = plain_worth(rule, m - MOST).numerator * 100
            self.assertEqual(shows(engine, m), plain_column(wanted, 10, 40))

    def test_fewest_places_are_just_enough(self):
        source = dice(112)
        for many in range(1, 9):
            for base in (2, 6, 10, 12):
                bottoms = [base ** source.randint(0, 4) for part in range(many)]
                rule = tuple(pair_of(Fraction(source.randint(1, 40), bottom)) for bottom in bottoms)
                places = least_places(rule, base)
                start = source.choice(STARTS)
                self.check(rule, base, 30, places, start)
                if places > 0:
                    self.refused(NotWhole, setting, rule, base, 30, places - 1, start)

    def first_not_whole(self, rule, base, places, start):
        for x in range(start, start + len(rule)):
            if (plain_worth(rule, x) * base ** places).denominator > 1:
                return x
        return None

    def test_not_whole_at_the_start(self):
        for start in STARTS:
            for places in (0, 1, 70):
                told = self.refused(NotWhole, setting, ((1, 3), (1, 1)), 10, 5, places, start)
                self.assertEqual(told.x, start)

    def test_not_whole_at_the_last_one_that_can_be(self):
        # C(x, k) divided by 7 is whole from 0 on until x is k.
        for many in range(1, 9):
            rule = self.falling(many - 1, 7)
            told = self.refused(NotWhole, setting, rule, 10, 5, 3, 0)
            self.assertEqual(told.x, many - 1)
            for back in range(1, many):
                told = self.refused(NotWhole, setting, rule, 10, 5, 3, back)
                self.assertEqual(told.x, self.first_not_whole(rule, 10, 3, back))

    def falling(self, k, bottom):
        """The rule of C(x, k) divided by the bottom."""
        parts = [Fraction(1, factorial(k) * bottom)]
        for j in range(k):
            parts = [up - j * stays for up, stays in zip([0] + parts, parts + [0])]
        return tuple(pair_of(Fraction(part)) for part in parts)

    def test_not_whole_between(self):
        # Odd numbers squared, divided by 4: whole at even x only.
        rule = ((0, 1), (0, 1), (1, 4))
        self.assertEqual(self.refused(NotWhole, setting, rule, 3, 5, 2, 2).x, 3)
        self.assertEqual(self.refused(NotWhole, setting, rule, 3, 5, 2, 3).x, 3)
        self.assertEqual(self.refused(NotWhole, setting, rule, 3, 5, 2, -4).x, -3)
        source = dice(113)
        found = set()
        for many in range(1, 9):
            for again in range(60):
                rule, start = any_rule(source, many, 1), source.randint(-20, 20)
                base, places = source.choice((2, 3, 6, 10)), source.randint(0, 3)
                wanted = self.first_not_whole(rule, base, places, start)
                if wanted is None:
                    self.check(rule, base, 9, places, start)
                else:
                    self.assertEqual(self.refused(NotWhole, setting, rule, base, 9, places, start).x, wanted)
                    found.add(wanted - start)
        self.assertLessEqual({0, 1, 2}, found)

    def test_refusals(self):
        wrong = [
            (NoRule, 0, NO_RULES), (NoBase, 1, NO_BASES), (NoWheels, 2, NO_WHEELS),
            (NoPlaces, 3, NO_PLACES), (NoStart, 4, NO_STARTS),
        ]
        self.refused_in_order(setting, [((1, 2), (1, 5)), 10, 5, 1, 0], wrong)

    def test_not_whole_comes_last(self):
        right = [((1, 3), (1, 5)), 10, 5, 1, 0]
        self.refused(NotWhole, setting, *right)
        for error, place, thing in (
            (NoBase, 1, 17), (NoWheels, 2, 41), (NoPlaces, 3, 71), (NoPlaces, 3, -1), (NoStart, 4, 10 ** 30),
        ):
            self.refused(error, setting, *right[:place], thing, *right[place + 1:])


class TestFewestColumns(unittest.TestCase):
    def test_noughts_at_the_end(self):
        for base in (2, 10, 16):
            for wheels in (1, 3, 40):
                noughts, high = (0,) * wheels, (1,) + (0,) * (wheels - 1)
                for many in range(1, 9):
                    self.assertEqual(fewest_columns(Engine(base, [noughts] * many)), 1)
                    for last in range(many):
                        columns = [noughts] * many
                        columns[last] = high
                        self.assertEqual(fewest_columns(Engine(base, columns)), last + 1)

    def test_noughts_in_the_middle(self):
        self.assertEqual(fewest_columns(Engine(10, [(0, 0), (0, 0), (0, 1), (0, 0), (9, 0), (0, 0)])), 5)
        self.assertEqual(fewest_columns(Engine(10, [(1, 0), (0, 0), (0, 0)])), 1)
        self.assertEqual(fewest_columns(Engine(10, [(0, 0), (0, 0), (0, 0), (0, 1)])), 4)

    def test_some_engines(self):
        for engine in some_engines(114):
            numbers, before = plain_numbers(engine), known(engine)
            wanted = max([k + 1 for k, number in enumerate(numbers) if number], default=1)
            self.assertEqual(fewest_columns(engine), wanted)
            self.assertEqual(fewest_columns(engine), wanted)
            self.assertEqual(known(engine), before)

    def test_so_few_show_the_same(self):
        for engine in some_engines(115, bases=(2, 10)):
            columns = engine.columns()
            for noughts in range(9 - len(columns)):
                more = Engine(engine.base(), columns + [(0,) * engine.wheels()] * noughts)
                fewer = Engine(engine.base(), columns[:fewest_columns(more)])
                for m in (0, 1, 2, 3, 9, 44):
                    self.assertEqual(shows(fewer, m), shows(more, m))


class TestRuleOf(unittest.TestCase, Refusing):
    def check(self, engine, places):
        before, base = known(engine), engine.base()
        told = rule_of(engine, places)
        few = engine.columns()[:fewest_columns(engine)]
        self.assertIs(is_rule(told), True)
        self.assertEqual(len(told), len(few))
        for k, column in enumerate(few):
            reading = Fraction(plain_reading(column, base), base ** places)
            self.assertEqual(plain_differences(told, -(k // 2))[k], reading)
        self.assertEqual(known(setting(told, base, engine.wheels(), places, 0)), known(Engine(base, few)))
        self.assertEqual(rule_of(engine, places), told)
        self.assertEqual(known(engine), before)

    def test_plain_ones(self):
        self.assertEqual(rule_of(Engine(10, [(0, 0), (0, 1), (0, 2)]), 0), ((0, 1), (0, 1), (1, 1)))
        self.assertEqual(rule_of(Engine(10, [(0, 0), (0, 1), (0, 2)]), 1), ((0, 1), (0, 1), (1, 10)))
        self.assertEqual(rule_of(Engine(10, [(9, 9), (0, 0)]), 0), ((-1, 1),))
        self.assertEqual(rule_of(Engine(10, [(5, 0), (4, 9)]), 2), ((-1, 2), (49, 100)))
        self.assertEqual(rule_of(Engine(2, [(0,), (1,)]), 0), ((0, 1), (-1, 1)))
        self.assertEqual(rule_of(Engine(16, [(0,)] * 8), 70), ((0, 1),))
        self.assertEqual(rule_of(Engine(10, [(0,), (0,), (0,), (1,)]), 0), ((0, 1), (-1, 6), (0, 1), (1, 6)))

    def test_some_engines(self):
        for number, engine in enumerate(some_engines(116)):
            for places in (0, 1, (number * 7) % 71, 70):
                self.check(engine, places)

    def test_noughts_here_and_there(self):
        source = dice(117)
        for base in (2, 3, 10, 16):
            for many in range(1, 9):
                columns = any_columns(source, base, 4, many)
                for k in range(many):
                    if source.randrange(2):
                        columns[k] = (0,) * 4
                self.check(Engine(base, columns), source.randint(0, 70))

    def test_what_was_told_is_handed_in_again(self):
        for engine in some_engines(118, bases=(10, 16), sizes=(40,)):
            told = rule_of(engine, 70)
            again = setting(told, engine.base(), 40, 70, 0)
            self.assertEqual(rule_of(again, 70), told)
            self.assertEqual(known(stands(again, 12345)), known(setting(told, engine.base(), 40, 70, 12345)))

    def test_refusals(self):
        for engine in (Engine(10, [(1, 2), (3, 4)]), Engine(2, [(0,)])):
            before = known(engine)
            self.refused_in_order(rule_of, [engine, 3], [(NoPlaces, 1, NO_PLACES)])
            self.assertEqual(known(engine), before)


class TestByValues(unittest.TestCase, Refusing):
    def check(self, base, wheels, values):
        kept = list(values)
        told = by_values(base, wheels, values)
        self.assertEqual(values, kept)
        self.assertIs(type(told), Engine)
        self.assertEqual((told.base(), told.wheels(), len(told.columns())), (base, wheels, len(values)))
        for m, value in enumerate(values):
            self.assertEqual(turned(told, m).column(0), plain_column(value, base, wheels))
        before = known(told)
        values[0] = values[0] + 1
        values.append(5)
        self.assertEqual(known(told), before)
        self.assertEqual(known(by_values(base, wheels, kept)), before)

    def test_plain_ones(self):
        self.assertEqual(by_values(10, 3, [0, 1, 4]).columns(), [(0, 0, 0), (0, 0, 1), (0, 0, 2)])
        self.assertEqual(by_values(10, 3, [0, 1, 8, 27]).columns(), [(0, 0, 0), (0, 0, 1), (0, 0, 0), (0, 0, 6)])
        self.assertEqual(by_values(10, 2, [-1]).columns(), [(9, 9)])
        self.assertEqual(by_values(10, 2, [1234]).columns(), [(3, 4)])
        self.assertEqual(by_values(10, 2, [5, 5, 5]).columns(), [(0, 5), (0, 0), (0, 0)])
        self.assertEqual(by_values(2, 1, [0, 1]).columns(), [(0,), (1,)])

    def test_one_to_eight_values_of_any_size(self):
        source = dice(119)
        for base in (2, 3, 10, 16):
            for wheels in (1, 2, 9, 40):
                for many in range(1, 9):
                    self.check(base, wheels, [source.randint(-9, 9) for value in range(many)])
                    self.check(base, wheels, [long_number(source) for value in range(many)])
                    self.check(base, wheels, [source.choice((10 ** 60 - 1, 1 - 10 ** 60, 0)) for value in range(many)])

    def test_there_is_just_one(self):
        for engine in some_engines(120):
            base, wheels = engine.base(), engine.wheels()
            shown = [plain_number(turned(engine, m).column(0), base) for m in range(len(engine.columns()))]
            self.assertEqual(known(by_values(base, wheels, shown)), known(engine))

    def test_refusals(self):
        wrong = [(NoBase, 0, NO_BASES), (NoWheels, 1, NO_WHEELS), (NoValues, 2, NO_VALUES)]
        self.refused_in_order(by_values, [10, 3, [1, 4, 9]], wrong)

    def test_lists_stay_as_they_were(self):
        values = [1, True]
        self.refused(NoValues, by_values, 10, 3, values)
        self.assertEqual(values, [1, True])


if __name__ == "__main__":
    unittest.main()
