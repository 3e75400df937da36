import unittest

from cranktables.engines import Engine
from cranktables.errors import NoBase, NoColumn, NoColumns
from tests.makers import any_columns
from tests.test_figures import NO_BASES, no_columns
from tests.things import NO_WHOLES, Refusing, dice

METHODS = ("__init__", "base", "wheels", "columns", "column")


class TestMaking(unittest.TestCase, Refusing):
    def check(self, base, columns):
        kept = list(columns)
        engine = Engine(base, columns)
        self.assertEqual(columns, kept)
        columns[0] = "another"
        columns.append((0,))
        for again in range(2):
            self.assertEqual(engine.base(), base)
            self.assertEqual(engine.wheels(), len(kept[0]))
            told = engine.columns()
            self.assertIs(type(told), list)
            self.assertEqual(told, kept)
            for k, column in enumerate(kept):
                self.assertEqual(engine.column(k), column)
                self.assertIs(type(engine.column(k)), tuple)
            told.reverse()
            told[0] = None
            told.clear()
        self.assertIsNot(engine.columns(), engine.columns())

    def test_all_sizes(self):
        source = dice(61)
        for base in range(2, 17):
            for many in range(1, 9):
                for wheels in (1, 2, source.randint(3, 39), 40):
                    self.check(base, any_columns(source, base, wheels, many))
                    self.check(base, [(0,) * wheels] * many)
                    self.check(base, [(base - 1,) * wheels] * many)

    def test_two_engines_of_one_list_are_apart(self):
        columns = [(1, 2), (3, 4)]
        one = Engine(10, columns)
        columns[1] = (5, 6)
        other = Engine(10, columns)
        self.assertEqual(one.columns(), [(1, 2), (3, 4)])
        self.assertEqual(other.columns(), [(1, 2), (5, 6)])

    def test_methods_stand_in_the_class_itself(self):
        for name in METHODS:
            self.assertIn(name, vars(Engine))

    def test_no_base_whatever_the_columns_are(self):
        for thing in NO_BASES:
            for columns in ([(0, 1)], [], None, ((0, 1),), [(0,), (0, 0)], [(99,)], "columns"):
                self.refused(NoBase, Engine, thing, columns)

    def test_no_list_of_one_to_eight(self):
        column = (0, 1, 1)
        for columns in (
            [], (), (column,), (column, column), [column] * 9, [column] * 10, [column] * 100, column,
            {0: column}, {column}, "011", iter([column]), range(2), [[]], [()], [column, ()],
        ):
            self.refused(NoColumns, Engine, 2, columns)
        for thing in NO_WHOLES + [0, 1, 5, -1]:
            self.refused(NoColumns, Engine, 10, thing)

    def test_columns_of_unlike_wheels(self):
        for columns in (
            [(0,), (0, 0)], [(0, 0), (0,)], [(1, 1, 1)] * 7 + [(1, 1)], [(1, 1), (1, 1, 1), (1, 1)],
            [(0,) * 40, (0,) * 39], [(0,) * 40, (0,) * 41], [(0,) * 41] * 2, [(0,) * 41],
        ):
            handed = list(columns)
            self.refused(NoColumns, Engine, 10, handed)
            self.assertEqual(handed, columns)

    def test_what_is_no_column_at_each_place(self):
        for base in (2, 10, 16):
            for thing in no_columns(base):
                for columns in ([thing], [thing, (0, 1)], [(0, 1), thing], [(0, 1), thing, (1, 0)], [thing] * 8):
                    handed = list(columns)
                    self.refused(NoColumns, Engine, base, handed)
                    self.assertEqual([id(part) for part in handed], [id(part) for part in columns])

    def test_a_wrong_figure_at_each_wheel(self):
        for figure in (-1, 7, 8, True, False, "1", None, 1.0, (1,)):
            for wheel in range(5):
                for k in range(3):
                    columns = [(0, 1, 2, 3, 4), (6, 5, 4, 3, 2), (0, 0, 0, 0, 0)]
                    columns[k] = columns[k][:wheel] + (figure,) + columns[k][wheel + 1:]
                    self.refused(NoColumns, Engine, 7, columns)

    def test_a_list_in_a_columns_place(self):
        columns = [(0, 1), [0, 1]]
        self.refused(NoColumns, Engine, 10, columns)
        self.assertEqual(columns, [(0, 1), [0, 1]])


class TestColumn(unittest.TestCase, Refusing):
    def test_no_column(self):
        source = dice(62)
        for many in range(1, 9):
            engine = Engine(10, any_columns(source, 10, 3, many))
            for thing in NO_WHOLES + [-1, -many, -many - 1, many, many + 1, 100, 10 ** 59, -10 ** 59]:
                self.refused(NoColumn, engine.column, thing)


if __name__ == "__main__":
    unittest.main()
