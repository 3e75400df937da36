import itertools
import unittest
from fractions import Fraction

from cranktables.engines import Engine
from cranktables.errors import NoBase, NoPlaces, NoTable, NoWheels, NoWithin
from cranktables.fewest import fewest
from cranktables.nearest import nearest
from cranktables.rounding import near_setting, off
from cranktables.standing import readings
from tests.makers import any_fraction, any_rule, known, pair_of, plain_column, plain_worth
from tests.test_figures import NO_BASES, NO_WHEELS
from tests.test_fractions import NO_FRACTIONS
from tests.test_levels import NO_TABLES, some_tables
from tests.test_nearest import degrees_of
from tests.test_rounding import plain_near_numbers, plain_off
from tests.things import NO_WHOLES, Refusing, dice

NO_MOST = NO_WHOLES + [-1, -2, -12, 13, 14, 70, 71, 1000, 10 ** 59, -10 ** 59]
NO_WITHIN = NO_FRACTIONS + [(-1, 1), (-1, 2), (-7, 3), (-1, 10 ** 59), (-10 ** 59, 1)]


def plain_tries(table, base, wheels, most):
    """All near settings in the order in which they are tried: (degree, places, engine, off)."""
    for degree in degrees_of(table):
        rule = nearest(table, degree)[0]
        for places in range(most + 1):
            numbers = plain_near_numbers(rule, base, places)
            engine = Engine(base, [plain_column(number, base, wheels) for number in numbers])
            yield degree, places, engine, plain_off(engine, places, table)


class TestFewest(unittest.TestCase, Refusing):
    def first(self, tries, within):
        for degree, places, engine, aside in tries:
            if aside <= within:
                return (engine, places)
        return None

    def check(self, handed, within, wanted):
        table = handed[0]
        kept = list(table)
        told = fewest(*handed, pair_of(within))
        self.assertEqual(table, kept)
        if wanted is None:
            self.assertIsNone(told)
            self.assertIsNone(fewest(*handed, pair_of(within)))
            return
        self.assertIs(type(told), tuple)
        engine, places = told
        self.assertIs(type(engine), Engine)
        self.assertIs(type(places), int)
        self.assertEqual((known(engine), places), (known(wanted[0]), wanted[1]))
        again = fewest(*handed, pair_of(within))
        self.assertEqual((known(again[0]), again[1]), (known(engine), places))
        self.assertLessEqual(Fraction(*off(engine, places, table)), within)

    def check_all(self, table, base, wheels, most):
        """With just each near setting's own off, with a little less, with nought and with much."""
        tries = list(plain_tries(table, base, wheels, most))
        offs = sorted({aside for degree, places, engine, aside in tries})
        withins = {Fraction(0), offs[-1] * 2 + 1}
        for aside in {offs[0], offs[len(offs) // 2], offs[-1]}:
            withins |= {aside, aside + Fraction(1, 10 ** 30), max(aside - Fraction(1, 10 ** 30), Fraction(0))}
        found = set()
        for within in withins:
            wanted = self.first(tries, within)
            self.check((table, base, wheels, most), within, wanted)
            found.add(None if wanted is None else (len(wanted[0].columns()), wanted[1]))
        return found

    def test_plain_ones(self):
        table = [(0, 1), (1, 1), (4, 1), (9, 1)]
        engine, places = fewest(table, 10, 3, 2, (0, 1))
        self.assertEqual((known(engine), places), ((10, 3, [(0, 0, 0), (0, 0, 1), (0, 0, 2)]), 0))
        engine, places = fewest(table, 10, 3, 2, (1, 1))
        self.assertEqual((known(engine), places), ((10, 3, [(9, 9, 9), (0, 0, 3)]), 0))
        engine, places = fewest(table, 10, 3, 2, (9, 2))
        self.assertEqual((known(engine), places), ((10, 3, [(0, 4, 5)]), 1))
        engine, places = fewest(table, 10, 3, 2, (5, 1))
        self.assertEqual((known(engine), places), ((10, 3, [(0, 0, 4)]), 0))
        self.assertIsNone(fewest([(1, 3)], 10, 5, 12, (0, 1)))
        engine, places = fewest([(1, 3)], 10, 5, 12, (1, 3000))
        self.assertEqual((known(engine), places), ((10, 5, [(0, 0, 3, 3, 3)]), 3))

    def test_fewer_columns_go_ahead_of_fewer_places(self):
        # A level line with one place is as near as is asked for; so is a slope with none, but it has a column more.
        table = [(1, 2), (1, 2), (1, 2)]
        engine, places = fewest(table, 10, 3, 1, (0, 1))
        self.assertEqual((known(engine), places), ((10, 3, [(0, 0, 5)]), 1))
        table = [(0, 1), (1, 1)]
        engine, places = fewest(table, 10, 3, 1, (1, 2))
        self.assertEqual((known(engine), places), ((10, 3, [(0, 0, 5)]), 1))
        engine, places = fewest(table, 10, 3, 0, (1, 2))
        self.assertEqual((known(engine), places), ((10, 3, [(0, 0, 0), (0, 0, 1)]), 0))

    def test_degrees_from_none_to_the_greatest(self):
        for many in range(1, 11):
            table = [(turn ** 5 - 3 * turn ** 2, 1) for turn in range(many)]
            for degree in degrees_of(table):
                rule = nearest(table, degree)[0]
                aside = off(near_setting(rule, 10, 20, 6), 6, table)
                engine, places = fewest(table, 10, 20, 6, aside)
                self.assertEqual(len(engine.columns()), degree + 1)
                tries = list(plain_tries(table, 10, 20, 6))
                self.check((table, 10, 20, 6), Fraction(*aside), self.first(tries, Fraction(*aside)))

    def test_each_number_of_places(self):
        for most in range(13):
            for places in range(most + 1):
                value = pair_of(Fraction(1, 10 ** places) if places else Fraction(3))
                engine, told = fewest([value] * 3, 10, 20, most, (0, 1))
                self.assertEqual(told, places)
                self.assertEqual(len(engine.columns()), 1)
            self.assertIsNone(fewest([(1, 10 ** (most + 1))], 10, 20, most, (0, 1)))

    def test_just_within_and_a_little_less(self):
        table = [(1, 3), (2, 3), (4, 3), (7, 3), (11, 3), (5, 7)]
        for base, wheels, most in ((10, 8, 4), (2, 20, 12), (16, 5, 2), (3, 12, 3)):
            tries = list(plain_tries(table, base, wheels, most))
            for within in {aside for degree, places, engine, aside in tries}:
                for beside in (within, within + Fraction(1, 10 ** 40), max(within - Fraction(1, 10 ** 40), Fraction(0))):
                    self.check((table, base, wheels, most), beside, self.first(tries, beside))

    def test_some_tables(self):
        source = dice(201)
        found = set()
        for table in some_tables(202):
            base, wheels = source.choice((2, 3, 10, 16)), source.choice((1, 2, 3, 6, 12, 40))
            found |= self.check_all(table, base, wheels, source.choice((0, 1, 2, 3)))
        self.assertIn(None, found)
        self.assertLessEqual({1, 2, 3, 4, 5}, {told[0] for told in found if told})
        self.assertLessEqual({0, 1, 2, 3}, {told[1] for told in found if told})

    def test_twelve_places(self):
        source = dice(203)
        for many in (1, 3, 6, 10):
            for base, wheels in ((10, 30), (2, 40), (16, 2)):
                rule = any_rule(source, 3, 2)
                table = [pair_of(plain_worth(rule, turn) + Fraction(source.randint(-1, 1), 9)) for turn in range(many)]
                self.check_all(table, base, wheels, 12)

    def test_columns_too_short(self):
        # One wheel of base 10 reads from -5 to 4, so 7 is read as -3 and comes to nothing by more places.
        self.assertIsNone(fewest([(7, 1)], 10, 1, 12, (0, 1)))
        self.assertIsNone(fewest([(7, 1)], 10, 1, 12, (13, 2)))
        engine, places = fewest([(7, 1)], 10, 1, 12, (7, 1))
        self.assertEqual((known(engine), places), ((10, 1, [(0,)]), 1))
        engine, places = fewest([(7, 1)], 10, 1, 12, (10, 1))
        self.assertEqual((known(engine), places), ((10, 1, [(7,)]), 0))
        self.assertEqual(readings(engine, 1), [-3])
        engine, places = fewest([(5, 1), (6, 1)], 10, 1, 0, (10, 1))
        self.assertEqual(engine.columns(), [(6,)])
        self.assertIsNone(fewest([(5, 1), (6, 1)], 10, 1, 0, (19, 2)))
        source = dice(204)
        for many in (1, 2, 5, 10):
            for base, wheels in ((2, 1), (2, 3), (10, 1), (16, 1)):
                table = [pair_of(Fraction(source.randint(-40, 40), source.randint(1, 4))) for turn in range(many)]
                self.check_all(table, base, wheels, 3)

    def test_a_greater_degree_with_fewer_places_is_not_tried_first(self):
        for tops in itertools.product((0, 1, 3), repeat=3):
            self.check_all([(top, 2) if top % 2 else (0, 1) for top in tops], 10, 4, 2)

    def test_long_fractions(self):
        source = dice(205)
        for many in (1, 4, 10):
            self.check_all([any_fraction(source, 60) for turn in range(many)], 10, 40, 1)

    def test_within_of_any_size(self):
        table = [(1, 3), (1, 7), (9, 2)]
        engine, places = fewest(table, 10, 4, 3, (10 ** 60 - 1, 1))
        self.assertEqual((engine.columns(), places), ([(0, 0, 0, 2)], 0))
        self.assertIsNone(fewest(table, 10, 4, 3, (1, 10 ** 60 - 1)))

    def test_refusals(self):
        wrong = [
            (NoTable, 0, NO_TABLES), (NoBase, 1, NO_BASES), (NoWheels, 2, NO_WHEELS),
            (NoPlaces, 3, NO_MOST), (NoWithin, 4, NO_WITHIN),
        ]
        self.refused_in_order(fewest, [[(1, 2)] * 3, 10, 4, 12, (0, 1)], wrong)

    def test_lists_stay_as_they_were(self):
        table = [(1, 2), (2, 4)]
        self.refused(NoTable, fewest, table, 10, 4, 1, (0, 1))
        self.assertEqual(table, [(1, 2), (2, 4)])


if __name__ == "__main__":
    unittest.main()
