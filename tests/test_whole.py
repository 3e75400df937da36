"""What the document promises over the whole program: its names, what is handed in, what is told, and how all fits together."""

import copy
import importlib
import inspect
import unittest
from fractions import Fraction

from cranktables.carries import added, taken
from cranktables.checks import blind, seen_at, suspects
from cranktables.desk import Desk
from cranktables.engines import Engine
from cranktables.fewest import fewest
from cranktables.figures import number_of, read_of
from cranktables.fractions import plus, times
from cranktables.joining import joined
from cranktables.levels import distance
from cranktables.nearest import nearest
from cranktables.printing import page, printed, read_printed
from cranktables.proofreading import is_right, loud, proofread
from cranktables.rounding import bound, near_setting, off, rounded
from cranktables.rules import differences, is_rule, worth
from cranktables.settings import by_values, fewest_columns, rule_of, setting
from cranktables.slips import slipped, wrong_by
from cranktables.standing import readings, shows, stands
from cranktables.sureness import sure
from cranktables.texts import read_engine, show_engine
from cranktables.turning import turned
from cranktables.typewheels import type_wheels
from tests.makers import known, pair_of, some_engines
from tests.things import dice

NAMES = {
    "fractions": "fraction plus less times over is_below is_fraction",
    "figures": "column_of number_of read_of",
    "engines": "Engine",
    "texts": "show_engine read_engine",
    "turning": "first_half second_half crank back turned",
    "standing": "stands shows readings",
    "carries": "added taken carried borrowed half_beats",
    "rules": "is_rule worth differences least_places",
    "settings": "setting fewest_columns rule_of by_values",
    "slips": "slipped wrong_by",
    "checks": "seen_at blind suspects",
    "levels": "level distance",
    "nearest": "nearest",
    "rounding": "rounded near_setting off bound",
    "fewest": "fewest",
    "printing": "printed read_printed page",
    "sureness": "sure",
    "proofreading": "is_right proofread loud",
    "typewheels": "type_wheels",
    "joining": "runs joined steps",
    "desk": "Desk",
}

SQUARES = Engine(10, [(0, 0, 0), (0, 0, 1), (0, 0, 2)])
TABLE = [(0, 1), (1, 3), (4, 3), (3, 1), (16, 5)]
RULE = ((1, 2), (0, 1), (1, 5))
CALLS = {
    "fraction": (6, -4), "plus": ((1, 2), (1, 3)), "less": ((1, 2), (1, 3)), "times": ((1, 2), (1, 3)), "over": ((1, 2), (1, 3)),
    "is_below": ((1, 2), (1, 3)), "is_fraction": ([1, 2],), "column_of": (-12, 10, 4), "number_of": ((9, 8), 10), "read_of": ((9, 8), 10),
    "Engine": (10, [(0, 1), (2, 3)]), "show_engine": (SQUARES,), "read_engine": ("engine 10 2\n0 01\n1 99\n",),
    "first_half": (SQUARES,), "second_half": (SQUARES,), "crank": (SQUARES,), "back": (SQUARES,), "turned": (SQUARES, -7),
    "stands": (SQUARES, 10 ** 29), "shows": (SQUARES, 10 ** 29), "readings": (SQUARES, 30),
    "added": (10, (0, 9, 9), (0, 0, 1)), "taken": (10, (0, 9, 9), (0, 0, 1)), "carried": (10, (0, 9, 9), (0, 0, 1)),
    "borrowed": (10, (0, 9, 9), (0, 0, 1)), "half_beats": (SQUARES,), "is_rule": ([(1, 2)],), "worth": (RULE, -5), "differences": (RULE, 3),
    "least_places": (RULE, 10), "setting": (RULE, 10, 5, 1, -3), "fewest_columns": (SQUARES,), "rule_of": (SQUARES, 2),
    "by_values": (10, 3, [5, 3, 8]), "slipped": (SQUARES, (2, 1, 0, 9), 4), "wrong_by": (SQUARES, (2, 1, 0, 9), 4),
    "seen_at": (SQUARES, (2, 1, 0, 9), [1, 2, 3]), "blind": (SQUARES, 2, [4]), "suspects": (SQUARES, [(1, (0, 0, 2)), (2, (0, 0, 6))]),
    "level": (TABLE, [0, 1, 3]), "distance": (RULE, TABLE), "nearest": (TABLE, 2), "rounded": ((5, 2),), "near_setting": (RULE, 10, 4, 3),
    "off": (SQUARES, 1, TABLE), "bound": (4, -5), "fewest": (TABLE, 10, 4, 3, (1, 2)), "printed": ((-2, 3), 16, 4),
    "read_printed": ("-0.6667", 10), "page": (SQUARES, 1, 2, -3, 6), "sure": ((1, 3), (1, 100), 10, 1),
    "is_right": ([0, 1, 4, 9, 17], 2), "proofread": ([0, 1, 4, 9, 17], 2), "loud": ([0, 1, 4, 9, 90], 2),
    "type_wheels": (10, [(0, 3), (0, 4), (0, 7), (0, 2), (1, 9)], 2), "runs": (TABLE * 4, 2, (1, 2)), "joined": (TABLE * 4, 2, (1, 2)),
    "steps": (TABLE * 4, 2, (1, 2)),
}


def function_called(name):
    module = [module for module in NAMES if name in NAMES[module].split()][0]
    return getattr(importlib.import_module("cranktables." + module), name)


def plainly(told):
    """What was told, with engines told by all that is known of them."""
    if isinstance(told, Engine):
        return known(told)
    if isinstance(told, (list, tuple)):
        return told.__class__(plainly(part) for part in told)
    return told


def spoil(told):
    """Change each list that was told, and those within."""
    if isinstance(told, (list, tuple)):
        for part in told:
            spoil(part)
    if isinstance(told, list):
        told.append("spoilt")
        told.reverse()


class TestNames(unittest.TestCase):
    def test_each_name_is_in_its_module(self):
        for module, names in NAMES.items():
            for name in names.split():
                thing = function_called(name)
                self.assertEqual(thing.__module__, "cranktables." + module)
                self.assertEqual(inspect.isclass(thing), name in ("Engine", "Desk"))

    def test_methods_stand_in_their_class(self):
        for thing, names in ((Engine, "base wheels columns column"), (Desk, "say")):
            for name in names.split():
                self.assertIn(name, vars(thing))

    def test_arguments_are_handed_in_by_their_places(self):
        for name, handed in CALLS.items():
            self.assertEqual(len(inspect.signature(function_called(name)).parameters), len(handed), name)

    def test_each_function_is_called_here(self):
        self.assertEqual({*CALLS, "Desk"}, {name for names in NAMES.values() for name in names.split()})


class TestWhatIsHandedInAndTold(unittest.TestCase):
    def test_what_is_handed_in_stays_and_the_same_is_told(self):
        for name, handed in CALLS.items():
            function, kept = function_called(name), copy.deepcopy(plainly(handed))
            told = plainly(function(*handed))
            for again in range(2):
                self.assertEqual(plainly(function(*handed)), told, name)
            self.assertEqual(plainly(handed), kept, name)

    def test_what_is_told_is_the_askers_own(self):
        for name, handed in CALLS.items():
            function = function_called(name)
            told = function(*handed)
            before = copy.deepcopy(plainly(told))
            spoil(told)
            self.assertEqual(plainly(function(*handed)), before, name)

    def test_what_is_handed_in_is_not_kept(self):
        for name, handed in CALLS.items():
            function, own = function_called(name), copy.deepcopy(handed)
            told = function(*own)
            before = copy.deepcopy(plainly(told))
            spoil([part for part in own if isinstance(part, list)])
            self.assertEqual(plainly(told), before, name)
            self.assertEqual(plainly(function(*handed)), before, name)

    def test_lists_of_an_engine_are_the_askers_own(self):
        columns = [(0, 1), (2, 3)]
        engine = Engine(10, columns)
        columns[0] = (9, 9)
        engine.columns().append((4, 4))
        engine.columns()[1] = (8, 8)
        self.assertEqual(engine.columns(), [(0, 1), (2, 3)])

    def test_lists_and_tuples_are_as_told(self):
        for name, kind in (
            ("differences", list), ("added", tuple), ("carried", list), ("half_beats", tuple), ("readings", list), ("blind", list),
            ("suspects", list), ("nearest", tuple), ("fewest", tuple), ("page", list), ("proofread", tuple), ("loud", list),
            ("type_wheels", list), ("runs", list), ("joined", list), ("steps", list), ("rule_of", tuple), ("fraction", tuple),
            ("column_of", tuple), ("shows", tuple), ("worth", tuple), ("level", tuple), ("distance", tuple), ("off", tuple), ("bound", tuple),
            ("read_printed", tuple), ("rounded", int), ("printed", str), ("sure", str), ("show_engine", str), ("is_right", bool),
        ):
            self.assertIs(type(function_called(name)(*CALLS[name])), kind, name)


class TestAllTogether(unittest.TestCase):
    def test_a_rule_set_turned_printed_and_proofread(self):
        source = dice(281)
        for many in range(1, 6):
            for base, wheels in ((10, 30), (2, 40), (16, 12)):
                bottoms = [base ** source.randint(0, 2) for part in range(many)]
                rule = tuple(pair_of(Fraction(source.randint(1, 40) * source.choice((1, -1)), bottom)) for bottom in bottoms)
                engine = setting(rule, base, wheels, 2, -4)
                self.assertEqual(known(read_engine(show_engine(engine))), known(engine))
                self.assertEqual(fewest_columns(engine), many)
                rows = page(engine, 2, 2, -3, 24)
                told = [read_printed(row.split(" ")[1], base) for row in rows]
                self.assertEqual(told, [worth(rule, x) for x in range(-7, 17)])
                values = [value[0] * base ** 2 // value[1] for value in told]
                self.assertEqual(values, readings(turned(engine, -3), 24))
                self.assertIs(is_right(values, many - 1), True)
                self.assertEqual(known(by_values(base, wheels, values[3:3 + many])), known(engine))
                right = values[11]
                values[11] += 10 ** 6
                self.assertEqual(proofread(values, many - 1), ("one", 11, right))
                self.assertEqual(loud(values, many - 1), [k for k in range(24 - many) if k <= 11 <= k + many])

    def test_carries_make_the_turns(self):
        for engine in some_engines(282, bases=(2, 10, 16)):
            base, columns = engine.base(), engine.columns()
            for k in list(range(1, len(columns), 2)) + list(range(2, len(columns), 2)):
                columns[k - 1] = added(base, columns[k], columns[k - 1])[0]
            self.assertEqual(columns, turned(engine, 1).columns())
            for k in list(range(2, len(columns), 2)) + list(range(1, len(columns), 2)):
                columns[k - 1] = taken(base, columns[k], columns[k - 1])[0]
            self.assertEqual(columns, engine.columns())

    def test_a_slip_is_seen_and_found(self):
        engine = setting(((3, 1), (-2, 1), (1, 1)), 10, 3, 0, 0)
        for slip in ((0, 0, 1, 4), (1, 1, 0, 9), (2, 2, 2, 5), (3, 2, 0, 1)):
            shown = [(m, slipped(engine, slip, m).column(0)) for m in range(8)]
            checks = list(range(8))
            first = slip[0] + (slip[1] // 2 + 1 if slip[1] else 0)
            self.assertEqual(seen_at(engine, slip, checks), first)
            self.assertEqual([m for m in checks if wrong_by(engine, slip, m)][0], first)
            self.assertIn(slip, suspects(engine, shown))
        self.assertEqual(blind(engine, 0, list(range(3))), [])

    def test_a_table_kept_by_an_engine(self):
        table = [pair_of(Fraction(1, 1 + turn)) for turn in range(10)]
        for within in (Fraction(1, 2), Fraction(1, 8), Fraction(1, 16), Fraction(1, 40)):
            engine, places = fewest(table, 10, 12, 12, pair_of(within))
            degree = len(engine.columns()) - 1
            rule, apart, turns = nearest(table, degree)
            self.assertEqual(known(near_setting(rule, 10, 12, places)), known(engine))
            self.assertEqual(distance(rule, table), apart)
            aside = Fraction(*off(engine, places, table))
            self.assertLessEqual(aside, within)
            most = max(Fraction(*bound(degree + 1, turn)) for turn in range(10)) / 10 ** places
            self.assertLessEqual(aside, Fraction(*apart) + most)
            for turn, row in enumerate(page(engine, places, places, 0, 10)):
                read = Fraction(*read_printed(row.split(" ")[1], 10))
                self.assertLessEqual(abs(read - Fraction(*table[turn])), within)
                text = sure(pair_of(read), pair_of(within), 10, 0)
                self.assertIn(text, (None, printed(table[turn], 10, 0)))

    def test_a_long_table_joined_and_set(self):
        table = [(turn ** 3 - 20 * turn, 1) for turn in range(24)]
        for degree in (1, 2, 3):
            for first, last, rule in joined(table, degree, (30, 1)):
                engine = near_setting(rule, 10, 12, 5)
                for turn in range(first, last + 1):
                    read = Fraction(read_of(shows(engine, turn - first), 10), 10 ** 5)
                    self.assertLessEqual(abs(read - table[turn][0]), 30 + Fraction(*bound(len(rule), turn - first)) / 10 ** 5)

    def test_printed_columns_with_a_turned_wheel(self):
        engine = setting(((0, 1), (0, 1), (0, 1), (1, 1)), 10, 6, 0, 0)
        columns = []
        for m in range(12):
            figures = list(shows(engine, m))
            figures[-1] = (figures[-1] + 4) % 10
            columns.append(tuple(figures))
        self.assertEqual(type_wheels(10, columns, 3), [(0, 4)])
        numbers = [number_of(column, 10) for column in columns]
        self.assertIs(is_right(numbers, 3), False)

    def test_a_desk_tells_as_the_modules_do(self):
        desk, engine = Desk(), setting(((1, 2), (0, 1), (1, 4)), 10, 5, 2, 3)
        desk.say("set 10 5 2 3 1/2 0 1/4")
        for m in (1, 5, -9, 40):
            desk.say(f"turn {m}")
            engine = turned(engine, m)
            self.assertEqual(desk.say("engine").replace(";", "\n"), show_engine(engine))
            self.assertEqual(page(engine, 2, 1, 0, 1), ["0 " + desk.say("prints 1")])

    def test_what_was_told_may_be_handed_in_again_however_long(self):
        long = (-10 ** 59 - 7, 3)
        for again in range(7):
            long = plus(times(long, long), (1, 7))
        table = [times(long, (turn * turn + 1, turn + 1) if turn % 2 == 0 else (turn, 1)) for turn in range(4)]
        rule, apart, turns = nearest(table, 1)
        self.assertIs(is_rule(rule), True)
        self.assertEqual(distance(rule, table), apart)
        self.assertEqual(len(differences(rule, 3)), len(rule))
        engine = near_setting(rule, 10, 40, 70)
        self.assertEqual(known(stands(stands(engine, 77), -77)), known(engine))
        self.assertEqual(known(setting(rule_of(engine, 70), 10, 40, 70, 0)), known(engine))
        text = printed(long, 10, 0)
        self.assertGreater(len(text), 4300)
        self.assertEqual(read_printed(text, 10), (rounded(long), 1))
        self.assertEqual(sure(long, (0, 1), 10, 0), text)


if __name__ == "__main__":
    unittest.main()
