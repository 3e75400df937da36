import unittest
from fractions import Fraction

from cranktables.engines import Engine
from cranktables.errors import NoBase, NoColumns, NoFraction, NoPlaces, NoRule, NoTable, NoTurns, NoWheels
from cranktables.rounding import bound, near_setting, off, rounded
from cranktables.settings import setting
from cranktables.standing import readings
from cranktables.turning import turned
from tests.makers import (
    any_rule, known, modulus_of, pair_of, plain_column, plain_differences, plain_worth, some_engines, some_rules,
)
from tests.test_figures import NO_BASES, NO_WHEELS, plain_number
from tests.test_fractions import NO_FRACTIONS
from tests.test_levels import NO_TABLES, some_tables
from tests.test_rules import NO_RULES
from tests.test_settings import NO_PLACES, plain_reading, whole_rules
from tests.test_standing import plain_choices
from tests.test_turning import NO_TURNS
from tests.things import NO_WHOLES, Refusing, dice, long_number

NO_COLUMN_COUNTS = NO_WHOLES + [0, -1, -8, 9, 10, 1000, 10 ** 59, -10 ** 59, [(0,)], [(0, 1), (1, 0)]]
LONGEST = 10 ** 60 - 1


def plain_rounded(value):
    """Rounded by its own words: the nearer of the two whole numbers around, or the even one."""
    lower = value.numerator // value.denominator
    down, up = value - lower, lower + 1 - value
    if down == up:
        return lower if lower % 2 == 0 else lower + 1
    return lower if down < up else lower + 1


def plain_near_numbers(rule, base, places):
    return [
        plain_rounded(plain_differences(rule, -(k // 2))[k] * base ** places)
        for k in range(len(rule))
    ]


def plain_off(engine, places, table):
    reads = [plain_reading(turned(engine, turn).column(0), engine.base()) for turn in range(len(table))]
    return max(
        abs(Fraction(read, engine.base() ** places) - Fraction(*wanted))
        for read, wanted in zip(reads, table)
    )


def plain_bound(columns, m):
    return sum(abs(plain_choices(m + (k - 1) // 2, k)) for k in range(columns)) * Fraction(1, 2)


def apart_but_for(number, worth, modulus):
    """How far the worth is from the nearest number that differs from this one by a multiple of M."""
    rest = (worth - number) % modulus
    return min(rest, modulus - rest)


class TestRounded(unittest.TestCase, Refusing):
    def check(self, value):
        told = rounded(pair_of(value))
        self.assertIs(type(told), int)
        self.assertEqual(told, plain_rounded(value))
        self.assertLessEqual(abs(told - value), Fraction(1, 2))
        self.assertEqual(rounded(pair_of(value)), told)

    def test_plain_ones(self):
        for value, wanted in (
            ((0, 1), 0), ((7, 1), 7), ((-7, 1), -7), ((1, 2), 0), ((3, 2), 2), ((5, 2), 2), ((7, 2), 4),
            ((-1, 2), 0), ((-3, 2), -2), ((-5, 2), -2), ((-7, 2), -4), ((1, 3), 0), ((2, 3), 1), ((-1, 3), 0),
            ((-2, 3), -1), ((49, 100), 0), ((51, 100), 1), ((-49, 100), 0), ((-51, 100), -1), ((149, 100), 1),
            ((151, 100), 2), ((-151, 100), -2), ((-149, 100), -1), ((249, 100), 2), ((251, 100), 3),
        ):
            self.assertEqual(rounded(value), wanted)
            self.assertIs(type(rounded(value)), int)

    def test_whole_ones_and_halves(self):
        for half in range(-60, 61):
            self.check(Fraction(half, 2))
            for aside in (Fraction(1, 3), Fraction(1, 1000), Fraction(1, LONGEST), Fraction(1, 10 ** 58)):
                self.check(Fraction(half, 2) + aside)
                self.check(Fraction(half, 2) - aside)

    def test_small_ones(self):
        for top in range(-70, 71):
            for bottom in range(1, 30):
                self.check(Fraction(top, bottom))

    def test_long_ones(self):
        source = dice(181)
        for again in range(300):
            self.check(Fraction(long_number(source), long_number(source) or 1))
        for sign in (1, -1):
            for top in (LONGEST, LONGEST - 1, LONGEST - 2, LONGEST - 3):
                for bottom in (1, 2, 3, LONGEST, LONGEST - 1, 2 * (LONGEST // 4), 10 ** 59, 2 * 10 ** 59):
                    self.check(Fraction(sign * top, bottom))
            self.check(Fraction(sign * (10 ** 59 + 1), 2 * 10 ** 59))
            self.check(Fraction(sign * (10 ** 59 - 1), 2 * 10 ** 59))

    def test_what_was_told_is_handed_in_again(self):
        value = Fraction(10 ** 400 + 1, 2)
        self.check(value)
        self.check(-value)
        self.check(value + Fraction(1, 10 ** 700))

    def test_refusals(self):
        self.refused_in_order(rounded, [(5, 2)], [(NoFraction, 0, NO_FRACTIONS)])

    def test_lists_stay_as_they_were(self):
        thing = [5, 2]
        self.refused(NoFraction, rounded, thing)
        self.assertEqual(thing, [5, 2])


class TestNearSetting(unittest.TestCase, Refusing):
    def check(self, rule, base, wheels, places):
        told = near_setting(rule, base, wheels, places)
        self.assertIs(type(told), Engine)
        columns = [plain_column(number, base, wheels) for number in plain_near_numbers(rule, base, places)]
        self.assertEqual(known(told), (base, wheels, columns))
        self.assertEqual(known(near_setting(rule, base, wheels, places)), known(told))
        return told

    def test_plain_ones(self):
        self.assertEqual(near_setting(((1, 3),), 10, 4, 2).columns(), [(0, 0, 3, 3)])
        self.assertEqual(near_setting(((2, 3),), 10, 4, 2).columns(), [(0, 0, 6, 7)])
        self.assertEqual(near_setting(((-2, 3),), 10, 4, 2).columns(), [(9, 9, 3, 3)])
        self.assertEqual(near_setting(((1, 2), (3, 2)), 10, 2, 0).columns(), [(0, 0), (0, 2)])
        self.assertEqual(near_setting(((5, 2), (-1, 2)), 10, 2, 0).columns(), [(0, 2), (0, 0)])
        self.assertEqual(near_setting(((1, 8),), 2, 4, 2).columns(), [(0, 0, 0, 0)])
        self.assertEqual(near_setting(((3, 8),), 2, 4, 2).columns(), [(0, 0, 1, 0)])
        # The differences of x times x times x, divided by 7, at 0, 0, -1 and -1.
        cubes = ((0, 1), (0, 1), (0, 1), (1, 7))
        self.assertEqual(near_setting(cubes, 10, 3, 2).columns(), [(0, 0, 0), (0, 1, 4), (0, 0, 0), (0, 8, 6)])

    def test_rules_of_one_to_eight_fractions(self):
        source = dice(182)
        for rule in some_rules(183):
            for places in (0, 1, source.randint(2, 69), 70):
                self.check(rule, source.randint(2, 16), source.choice((1, 2, 3, 9, 40)), places)

    def test_each_base_and_ends_of_wheels_and_places(self):
        source = dice(184)
        for base in range(2, 17):
            for wheels in (1, 2, 39, 40):
                for places in (0, 1, 69, 70):
                    self.check(any_rule(source, source.randint(1, 8), 3), base, wheels, places)

    def test_halves(self):
        source = dice(185)
        for many in range(1, 9):
            for base in (3, 7, 10, 16):
                for again in range(6):
                    places = source.randint(0, 2)
                    # Column k is a whole number of half units, many of them between two whole ones.
                    halves = [pair_of(Fraction(source.randint(-9, 9) or 1, 2 * base ** places)) for part in range(many)]
                    self.check(tuple(halves), base, 6, places)

    def test_the_last_column_may_be_rounded_to_noughts(self):
        told = self.check(((1, 1), (0, 1), (1, 10 ** 9)), 10, 5, 2)
        self.assertEqual(told.columns(), [(0, 0, 1, 0, 0), (0,) * 5, (0,) * 5])

    def test_whole_rules_have_their_settings(self):
        for rule, base, wheels, places, start in whole_rules(186):
            self.assertEqual(known(near_setting(rule, base, wheels, places)), known(setting(rule, base, wheels, places, 0)))

    def test_no_further_than_the_bound(self):
        source = dice(187)
        for rule in some_rules(188):
            base, wheels, places = source.choice((2, 3, 10, 16)), source.choice((1, 3, 20, 40)), source.choice((0, 1, 5, 70))
            engine = near_setting(rule, base, wheels, places)
            for m in (0, 1, 2, 3, 9, 60, 200, -1, -2, -5, -60, -200):
                number = plain_number(turned(engine, m).column(0), base)
                aside = apart_but_for(number, plain_worth(rule, m) * base ** places, modulus_of(engine))
                self.assertLessEqual(aside, Fraction(*bound(len(rule), m)))

    def test_long_fractions(self):
        for rule in (
            ((LONGEST, LONGEST - 1),) * 8, ((-LONGEST, 1),) * 8, ((1, LONGEST),) * 8, ((LONGEST, 2), (-LONGEST, 16)),
        ):
            for base, wheels, places in ((2, 1, 0), (10, 40, 70), (16, 40, 70), (7, 3, 1)):
                self.check(rule, base, wheels, places)

    def test_what_was_told_is_handed_in_again(self):
        long = pair_of(Fraction(10 ** 300 + 1, 3 * 10 ** 200 + 1))
        self.check((long, long, long), 10, 40, 70)

    def test_refusals(self):
        wrong = [(NoRule, 0, NO_RULES), (NoBase, 1, NO_BASES), (NoWheels, 2, NO_WHEELS), (NoPlaces, 3, NO_PLACES)]
        self.refused_in_order(near_setting, [((1, 2), (1, 3)), 10, 5, 1], wrong)


class TestOff(unittest.TestCase, Refusing):
    def check(self, engine, places, table):
        kept, before = list(table), known(engine)
        told = off(engine, places, table)
        self.assertIs(type(told), tuple)
        self.assertEqual(told, pair_of(plain_off(engine, places, table)))
        self.assertEqual(off(engine, places, table), told)
        self.assertEqual((table, known(engine)), (kept, before))

    def test_plain_ones(self):
        squares = Engine(10, [(0, 0, 0), (0, 0, 1), (0, 0, 2)])
        self.assertEqual(off(squares, 0, [(0, 1), (1, 1), (4, 1)]), (0, 1))
        self.assertEqual(off(squares, 0, [(0, 1), (1, 2), (4, 1)]), (1, 2))
        self.assertEqual(off(squares, 1, [(0, 1), (1, 1), (4, 1)]), (18, 5))
        self.assertEqual(off(squares, 0, [(-3, 1), (1, 1), (6, 1)]), (3, 1))
        self.assertEqual(off(Engine(10, [(9, 9)]), 2, [(0, 1)]), (1, 100))
        self.assertEqual(off(Engine(10, [(5, 0)]), 0, [(50, 1)]), (100, 1))
        self.assertEqual(off(Engine(10, [(4, 9), (0, 1)]), 0, [(49, 1), (50, 1)]), (100, 1))
        self.assertEqual(off(Engine(2, [(1,)]), 0, [(1, 1)]), (2, 1))

    def test_some_engines_and_tables(self):
        source = dice(189)
        tables = some_tables(190)
        for engine in some_engines(191):
            for table in source.sample(tables, 3):
                self.check(engine, source.choice((0, 1, 2, 13, 70)), table)

    def test_each_turn_counts(self):
        engine = Engine(10, [(0, 1, 0), (0, 0, 7), (9, 9, 6)])
        for many in range(1, 11):
            reads = [(reading, 10) for reading in readings(engine, many)]
            table = [pair_of(Fraction(*part)) for part in reads]
            self.assertEqual(off(engine, 1, table), (0, 1))
            for turn in range(many):
                for aside in (Fraction(1, 7), Fraction(-1, 7)):
                    other = list(table)
                    other[turn] = pair_of(Fraction(*table[turn]) + aside)
                    self.assertEqual(off(engine, 1, other), (1, 7))

    def test_refusals(self):
        for engine in (Engine(10, [(1, 2), (3, 4)]), Engine(2, [(0,)])):
            before, wrong = known(engine), [(NoPlaces, 1, NO_PLACES), (NoTable, 2, NO_TABLES)]
            self.refused_in_order(off, [engine, 3, [(1, 2)] * 10], wrong)
            self.assertEqual(known(engine), before)


class TestBound(unittest.TestCase, Refusing):
    def test_plain_ones(self):
        for m in (0, 1, -1, 5, 200, -200):
            self.assertEqual(bound(1, m), (1, 2))
        self.assertEqual(bound(2, 0), (1, 2))
        self.assertEqual(bound(2, 3), (2, 1))
        self.assertEqual(bound(2, -3), (2, 1))
        # Half of 1, 5, C(5, 2) and C(6, 3) together, and of 1, 5, C(-5, 2) and C(-4, 3) without its sign.
        self.assertEqual(bound(4, 5), (18, 1))
        self.assertEqual(bound(4, -5), (41, 2))
        self.assertEqual(bound(8, 0), (1, 2))

    def test_each_number_of_columns_and_turns(self):
        for columns in range(1, 9):
            for m in range(-200, 201):
                told = bound(columns, m)
                self.assertIs(type(told), tuple)
                self.assertEqual(told, pair_of(plain_bound(columns, m)))
                self.assertEqual(bound(columns, m), told)

    def test_it_is_no_more_than_what_can_be(self):
        # With a rest of nearly a half in each column, each with the sign that its part has, the bound is nearly reached.
        for many in range(1, 9):
            for m in (0, 1, 2, 5, 9, -1, -4, -9):
                signs = [1 if plain_choices(m + (k - 1) // 2, k) >= 0 else -1 for k in range(many)]
                rule = self.rule_with([Fraction(499, 1000) * sign for sign in signs])
                number = plain_number(turned(near_setting(rule, 10, 40, 0), m).column(0), 10)
                aside = apart_but_for(number, plain_worth(rule, m), 10 ** 40)
                self.assertEqual(aside, Fraction(998, 1000) * Fraction(*bound(many, m)))

    def rule_with(self, rests):
        """The rule whose difference number k at 0 less k // 2 is rests[k]."""
        parts = [Fraction(0)] * len(rests)
        for k, rest in enumerate(rests):
            product = [rest]
            for j in range(k):
                back = j - (k - 1) // 2
                product = [(up - back * stays) / (j + 1) for up, stays in zip([0] + product, product + [0])]
            parts = [part + (product[at] if at <= k else 0) for at, part in enumerate(parts)]
        return tuple(pair_of(part) for part in parts)

    def test_refusals(self):
        wrong = [(NoColumns, 0, NO_COLUMN_COUNTS), (NoTurns, 1, NO_TURNS)]
        self.refused_in_order(bound, [8, 200], wrong)
        self.refused_in_order(bound, [1, -200], wrong)


if __name__ == "__main__":
    unittest.main()
