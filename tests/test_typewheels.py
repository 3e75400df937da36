import unittest

from cranktables.engines import Engine
from cranktables.errors import NoBase, NoDegree, NoRows
from cranktables.settings import setting
from cranktables.standing import shows
from cranktables.typewheels import type_wheels
from tests.makers import any_columns, plain_column
from tests.test_figures import NO_BASES, no_columns, plain_number
from tests.test_proofreading import NO_PROOF_DEGREES, follow_one_rule, right_values
from tests.things import NO_WHOLES, Refusing, dice


def no_rows(base, degree, wheels):
    """What is no list of columns of the base, as many as the degree asks for, of as many wheels each."""
    many, column = degree + 3, (0,) * wheels
    made = [thing for thing in NO_WHOLES if thing.__class__ is not list] + [
        0, 5, [], column, (column,) * many, (column,) * 24, [0] * many, [list(column)] * many, [[column] * many], "1234567",
        [column] * 25, [column] * 26, [column] * 100, {k: column for k in range(many)}, {column}, Engine(base, [column]),
    ]
    made += [[column] * short for short in range(many)]
    wrong = no_columns(base) + [(0,) * (wheels + 1), (0,) * (wheels + 2), list(column)]
    wrong += [(0,) * (wheels - 1)] if wheels > 1 else []
    for thing in wrong:
        made += [[thing] + [column] * (many - 1), [column] * (many - 1) + [thing], [column] * 12 + [thing] + [column] * 11]
    made += [[(0,) * 41] * many, [()] * many, [(base,) * wheels] * many, [(True,) * wheels] * many]
    return made


def turn(column, base, wheel, by):
    """The column with this wheel gone on, one figure at a time, or back where by is below 0."""
    figures = list(column)
    at = len(figures) - 1 - wheel
    for step in range(by):
        figures[at] = 0 if figures[at] == base - 1 else figures[at] + 1
    for step in range(-by):
        figures[at] = base - 1 if figures[at] == 0 else figures[at] - 1
    return tuple(figures)


def plain_type_wheels(base, columns, degree):
    found = []
    for wheel in range(len(columns[0])):
        for by in range(1, base):
            numbers = [plain_number(turn(column, base, wheel, -by), base) for column in columns]
            if follow_one_rule(list(range(len(columns))), numbers, degree):
                found.append((wheel, by))
    return found


def right_columns(source, base, wheels, degree, many):
    """Columns whose numbers are right, none of them below 0 or above what the wheels can show."""
    while True:
        numbers = right_values(source, degree, many, source.randint(1, 3))
        spread = max(numbers) - min(numbers)
        if spread < base ** wheels:
            higher = source.randrange(base ** wheels - spread) - min(numbers)
            return [plain_column(number + higher, base, wheels) for number in numbers]


class TestTypeWheels(unittest.TestCase, Refusing):
    def check(self, base, columns, degree):
        kept = list(columns)
        wanted = plain_type_wheels(base, columns, degree)
        told = type_wheels(base, columns, degree)
        self.assertIs(type(told), list)
        self.assertTrue(all(type(pair) is tuple for pair in told))
        self.assertEqual(told, wanted)
        self.assertEqual(told, sorted(told))
        told.append("more")
        self.assertEqual(type_wheels(base, columns, degree), wanted)
        self.assertEqual(columns, kept)
        return wanted

    def test_plain_ones(self):
        squares = [(0, 0), (0, 1), (0, 4), (0, 9), (1, 6)]
        # The higher wheel turned back by 1 makes noughts 9 and the last 1 a nought; by more all get the same.
        self.assertEqual(type_wheels(10, squares, 2), [(1, by) for by in range(2, 10)])
        self.assertEqual(type_wheels(10, [(0, 3), (0, 4), (0, 7), (0, 2), (1, 9)], 2), [(0, 3)])
        higher = [(7, 0), (7, 1), (7, 4), (7, 9), (8, 6)]
        self.assertEqual(type_wheels(10, higher, 2), [(1, by) for by in (1, 2, 3, 4, 5, 6, 7, 9)])
        self.assertEqual(type_wheels(2, [(0,), (0,), (0,)], 0), [(0, 1)])
        self.assertEqual(type_wheels(2, [(0, 1), (0, 0), (1, 1), (1, 0)], 1), [(0, 1), (1, 1)])
        self.assertEqual(type_wheels(3, [(0, 1)] * 3, 0), [(0, 1), (0, 2), (1, 1), (1, 2)])
        self.assertEqual(type_wheels(10, [(0, 1), (0, 0), (0, 5), (0, 2)], 1), [])

    def test_a_wheel_turned_in_each_column(self):
        source = dice(251)
        found = []
        for degree in range(5):
            for base, wheels in ((2, 12), (3, 9), (10, 5), (10, 6), (16, 4), (16, 6)):
                for many in (degree + 3, degree + 4, 9):
                    columns = right_columns(source, base, wheels, degree, many)
                    wheel, by = source.randrange(wheels), source.randint(1, base - 1)
                    columns = [turn(column, base, wheel, by) for column in columns]
                    told = self.check(base, columns, degree)
                    self.assertIn((wheel, by), told)
                    found.append(len(told))
        self.assertIn(1, found)
        self.assertGreater(max(found), 3)

    def test_each_wheel_and_by(self):
        # Among the lowest figures of x times x times x are the first and the last one, so there no other by will do.
        for base, wheels in ((10, 5), (16, 4), (2, 14), (7, 5)):
            cubes = [plain_column(x ** 3, base, wheels) for x in range(23)]
            for wheel in range(wheels):
                for by in range(1, base):
                    columns = [turn(column, base, wheel, by) for column in cubes]
                    told = self.check_quick(base, columns, 3)
                    self.assertIn((wheel, by), told)
                    if wheel == 0:
                        self.assertEqual(told, [(0, by)])

    def check_quick(self, base, columns, degree):
        told = type_wheels(base, columns, degree)
        for wheel, by in told:
            numbers = [plain_number(turn(column, base, wheel, -by), base) for column in columns]
            self.assertTrue(follow_one_rule(list(range(len(columns))), numbers, degree))
        return told

    def test_none(self):
        source = dice(252)
        for degree in range(5):
            for base, wheels in ((2, 5), (10, 3), (16, 3)):
                for many in (degree + 3, 24):
                    columns = any_columns(source, base, wheels, many)
                    self.assertEqual(self.check(base, columns, degree), [])

    def test_right_columns(self):
        source = dice(253)
        for degree in range(5):
            for base, wheels in ((2, 12), (10, 5), (16, 4)):
                self.check(base, right_columns(source, base, wheels, degree, degree + 3), degree)

    def test_columns_alike(self):
        for base, wheels in ((2, 1), (2, 7), (10, 2), (16, 3)):
            for degree in range(5):
                for figure in (0, 1, base - 1):
                    told = self.check(base, [(figure,) * wheels] * (degree + 3), degree)
                    self.assertEqual(told, [(wheel, by) for wheel in range(wheels) for by in range(1, base)])

    def test_numbers_count_not_what_is_read(self):
        # Right but for a multiple of M, and right where columns are read, is not enough.
        self.assertEqual(self.check(10, [(9,), (0,), (1,), (2,)], 1), [(0, by) for by in range(3, 10)])
        self.assertEqual(self.check(10, [(7,), (9,), (1,), (3,), (5,)], 1), [(0, 6), (0, 7)])
        self.assertEqual(self.check(2, [(1,), (0,), (1,), (0,)], 1), [])

    def test_forty_wheels(self):
        rule = ((7, 1), (10 ** 11, 1), (10 ** 25, 1))
        for base in (2, 10, 16):
            engine = setting(rule, base, 40, 0, 0)
            for wheel in (0, 1, 20, 38, 39):
                for many in (5, 24):
                    columns = [turn(shows(engine, m), base, wheel, base - 1) for m in range(many)]
                    numbers = [plain_number(shows(engine, m), base) for m in range(many)]
                    if follow_one_rule(list(range(many)), numbers, 2):
                        self.assertIn((wheel, base - 1), self.check_quick(base, columns, 2))
        columns = [turn(plain_column(x * x, 2, 40), 2, 39, 1) for x in range(5)]
        self.assertIn((39, 1), self.check(2, columns, 2))
        columns = [turn(plain_column(x ** 3, 16, 40), 16, 0, 13) for x in range(24)]
        self.assertEqual(self.check_quick(16, columns, 3), [(0, 13)])

    def test_refusals(self):
        for base, degree, wheels in ((2, 0, 1), (10, 2, 3), (16, 4, 40), (9, 3, 2)):
            wrong = [(NoBase, 0, NO_BASES), (NoDegree, 2, NO_PROOF_DEGREES), (NoRows, 1, no_rows(base, degree, wheels))]
            for many in (degree + 3, 24):
                self.refused_in_order(type_wheels, [base, [(0,) * wheels] * many, degree], wrong)

    def test_columns_of_another_base(self):
        columns = [(0, 1), (0, 2), (0, 3), (0, 4)]
        self.assertEqual(type_wheels(5, columns, 1), plain_type_wheels(5, columns, 1))
        for base in (2, 3, 4):
            self.refused(NoRows, type_wheels, base, columns, 1)

    def test_lists_stay_as_they_were(self):
        columns = [(0, 1), [0, 2], (0, 3), (0, 4)]
        self.refused(NoRows, type_wheels, 10, columns, 1)
        self.assertEqual(columns, [(0, 1), [0, 2], (0, 3), (0, 4)])


if __name__ == "__main__":
    unittest.main()
