import unittest
from fractions import Fraction

from cranktables.desk import Desk
from cranktables.errors import (
    NoBase, NoColumn, NoPlaces, NoRow, NoRule, NoSlip, NoStart, NotWhole, NoTurns, NoWheels,
)
from cranktables.printing import printed
from cranktables.settings import setting
from cranktables.slips import slipped
from cranktables.texts import show_engine
from cranktables.turning import turned
from tests.makers import pair_of
from tests.test_printing import plain_printed
from tests.test_settings import plain_reading, whole_rules
from tests.things import NO_WHOLES, Refusing, dice

SIXTY = "9" * 60
SIXTY_ONE = "1" + "0" * 60
SQUARES = "set 10 4 1 -2 0 0 1/2"

NO_NUMBERS = [
    "", "-", "+", "+1", "-+1", "--1", "01", "00", "007", "-01", "-0", "-00", "1.", "1.0", "0.5", ".5", "1e3", "1_0", "0x1",
    "x", "a", "A", "one", "1a", "a1", "1-", "1,", "1;", "\t1", "1\t", "1\n", "\n1", "\n", "\t", "None", "True", "(1,)", "[1]",
    SIXTY_ONE, "-" + SIXTY_ONE, "9" * 61, "-" + "9" * 61, "1" * 62, "1" * 300, "1" * 5000, "-" + "7" * 5000, "0" * 61, "1/2", "2/1",
]
NO_FRACTION_WORDS = [word for word in NO_NUMBERS if word != "1/2"] + [
    "/", "1/", "/2", "-/2", "1/-2", "-1/-2", "1/+2", "+1/2", "1/0", "0/0", "0/1", "0/2", "0/7", "1/1", "5/1", "-5/1", "2/4", "-2/4",
    "6/3", "10/5", "1/02", "01/2", "-01/2", "-0/2", "1//2", "1/2/3", "1/2/", "/1/2", "1/2.", "1.0/2", "1/2.0", "1/x", "x/2", "1\\2",
    "1:2", "1/2\n", "1/\n2", "1/2\t", "1/" + SIXTY_ONE, SIXTY_ONE + "/7", "-" + SIXTY_ONE + "/7", "1/" + "7" * 5000, "7" * 5000 + "/2",
    "(1,2)", "1/ 2", "1 /2",
]
NO_ROWS = [
    "", " ", "  ", "\n", "\t", "set", "turn", "slip", "reads", "prints", " shows", "shows ", "shows  ", " engine", "engine ", "\tshows",
    "shows\t", "shows\n", "engine\n", "\nengine", "shows\n\n", "show", "Shows", "SHOWS", "showss", "engines", "Engine", "read", "read 0",
    "Reads 0", "print 0", "Prints 0", "turns 1", "Turn 1", "TURN 1", "sets 10 1 0 0 1", "Set 10 1 0 0 1", "slips 0 0 1", "ok", "help",
    "quit", "shows 0", "shows shows", "engine 0", "engine engine", "turn 1 2", "turn 1 ", "turn  1", " turn 1", "turn\t1", "turn\n1",
    "turn 1 turn 1", "turn 1;", "turn 1\nturn 1", "reads 0 0", "reads 0 1", "reads  0", "reads 0 ", "reads\t0", "prints 0 0", "prints  0",
    "prints 0 ", "slip 0", "slip 0 0", "slip 0 0 1 1", "slip  0 0 1", "slip 0  0 1", "slip 0 0 1 ", " slip 0 0 1", "slip 0 0 0 1 0",
    "set 10", "set 10 1", "set 10 1 0", "set 10 1 0 0", "set 10 1 0 0 ", "set  10 1 0 0 1", "set 10  1 0 0 1", "set 10 1 0 0  1",
    "set 10 1 0 0 1 ", " set 10 1 0 0 1", "set 10 1 0 0 1  1", "set 10 1 0 0" + " 1" * 9, "set 10 1 0 0" + " 1" * 10, "set 10 1 0 0" + " 1" * 100,
    "set 99 99 99 99" + " 0" * 9, "set 10/1 1 0 0 1", "set 21/2 1 0 0 1", "set 10 1/2 0 0 1", "set 10 1 1/2 0 1", "set 10 1 0 1/2 1",
    "0", "1", "-1", "1/2", "set,10,1,0,0,1", "set;10;1;0;0;1", "turn:1", "turn=1", "engine 10 1\n0 0\n", "engine 10 1;0 0;",
]


def texts_of(desk):
    """All that can be asked of a desk without changing it."""
    told = [desk.say("engine"), desk.say("shows")]
    many = told[0].count(";") - 1
    told += [desk.say(f"reads {k}") for k in range(many)]
    return told + [desk.say(f"prints {q}") for q in (0, 1, 2, 5, 70)]


def words_of(rule):
    return " ".join(str(top) if bottom == 1 else f"{top}/{bottom}" for top, bottom in rule)


def written_rules(seed):
    """Rules with a base, wheels, places and a start with which all worths are whole, in numbers of at most sixty figures."""
    return [
        handed for handed in whole_rules(seed)
        if all(abs(top) < 10 ** 60 and bottom < 10 ** 60 for top, bottom in handed[0])
    ]


def figures_of(column):
    return "".join("0123456789abcdef"[figure] for figure in column)


class Desks(unittest.TestCase, Refusing):
    def check(self, desk, engine, places):
        """The desk answers as an engine like this one, with these places, tells."""
        base = engine.base()
        self.assertEqual(desk.say("engine"), show_engine(engine).replace("\n", ";"))
        self.assertEqual(desk.say("shows"), figures_of(engine.column(0)))
        for k, column in enumerate(engine.columns()):
            self.assertEqual(desk.say(f"reads {k}"), str(plain_reading(column, base)))
        value = Fraction(plain_reading(engine.column(0), base), base ** places)
        for shown in (0, 1, places - 1, places, places + 1, 70):
            if 0 <= shown <= 70:
                self.assertEqual(desk.say(f"prints {shown}"), plain_printed(value, base, shown))
                self.assertEqual(desk.say(f"prints {shown}"), printed(pair_of(value), base, shown))

    def refused_by(self, desk, error, row):
        before = texts_of(desk)
        told = self.refused(error, desk.say, row)
        self.assertEqual(texts_of(desk), before)
        return told


class TestAnswers(Desks):
    def test_a_new_desk(self):
        desk = Desk()
        self.assertEqual(desk.say("engine"), "engine 10 1;0 0;")
        self.assertEqual(desk.say("shows"), "0")
        self.assertEqual(desk.say("reads 0"), "0")
        self.assertEqual(desk.say("prints 0"), "0")
        self.assertEqual(desk.say("prints 3"), "0.000")
        self.assertEqual(desk.say("turn 5"), "ok")
        self.assertEqual(desk.say("slip 0 0 9"), "ok")
        self.assertEqual(desk.say("engine"), "engine 10 1;0 9;")
        self.assertEqual(desk.say("shows"), "9")
        self.assertEqual(desk.say("reads 0"), "-1")
        self.assertEqual(desk.say("prints 2"), "-1.00")
        self.refused_by(desk, NoColumn, "reads 1")

    def test_plain_rows(self):
        desk = Desk()
        self.assertEqual(desk.say(SQUARES), "ok")
        self.assertEqual(desk.say("engine"), "engine 10 4;0 0020;1 9985;2 0010;")
        self.assertEqual(desk.say("shows"), "0020")
        self.assertEqual([desk.say(f"reads {k}") for k in range(3)], ["20", "-15", "10"])
        self.assertEqual([desk.say(f"prints {q}") for q in (0, 1, 2)], ["2", "2.0", "2.00"])
        self.assertEqual(desk.say("turn 1"), "ok")
        self.assertEqual([desk.say(f"prints {q}") for q in (0, 1, 2)], ["0", "0.5", "0.50"])
        self.assertEqual(desk.say("turn -1"), "ok")
        self.assertEqual(desk.say("shows"), "0020")
        self.assertEqual(desk.say("slip 0 3 9"), "ok")
        self.assertEqual(desk.say("shows"), "9020")
        self.assertEqual(desk.say("reads 0"), "-980")
        self.assertEqual(desk.say("prints 1"), "-98.0")
        self.assertEqual(desk.say("slip 0 3 1"), "ok")
        self.assertEqual(desk.say("shows"), "0020")
        self.assertEqual(desk.say("set 16 2 0 0 171"), "ok")
        self.assertEqual(desk.say("shows"), "ab")
        self.assertEqual(desk.say("reads 0"), "-85")
        self.assertEqual(desk.say("prints 0"), "-55")
        self.assertEqual(desk.say("engine"), "engine 16 2;0 ab;")

    def test_answers_are_texts(self):
        desk = Desk()
        for row in (SQUARES, "turn 3", "turn 0", "slip 1 2 3", "shows", "reads 2", "prints 4", "engine"):
            self.assertIs(type(desk.say(row)), str)

    def test_settings(self):
        for rule, base, wheels, places, start in written_rules(271):
            desk = Desk()
            self.assertEqual(desk.say(f"set {base} {wheels} {places} {start} {words_of(rule)}"), "ok")
            engine = setting(rule, base, wheels, places, start)
            self.check(desk, engine, places)
            self.assertEqual(desk.say("turn 7"), "ok")
            self.check(desk, turned(engine, 7), places)
            self.assertEqual(desk.say("turn -200"), "ok")
            self.check(desk, turned(engine, -193), places)

    def test_turns_and_slips(self):
        source = dice(272)
        for rule, base, wheels, places, start in written_rules(273)[::5]:
            desk, engine = Desk(), setting(rule, base, wheels, places, start)
            desk.say(f"set {base} {wheels} {places} {start} {words_of(rule)}")
            for again in range(6):
                m = source.choice((0, 1, -1, 5, -17, 200, -200))
                self.assertEqual(desk.say(f"turn {m}"), "ok")
                engine = turned(engine, m)
                k, wheel, by = source.randrange(len(rule)), source.randrange(wheels), source.randint(1, base - 1)
                self.assertEqual(desk.say(f"slip {k} {wheel} {by}"), "ok")
                engine = slipped(engine, (0, k, wheel, by), 0)
                self.check(desk, engine, places)

    def test_set_again_keeps_nothing_of_what_was(self):
        desk = Desk()
        for row, places in ((SQUARES, 1), ("set 2 5 0 0 3", 0), ("set 10 2 70 5 0", 70), (SQUARES, 1)):
            self.assertEqual(desk.say(row), "ok")
            fresh = Desk()
            fresh.say(row)
            self.assertEqual(texts_of(desk), texts_of(fresh))
            desk.say("turn 4")

    def test_fractions_as_they_are_written(self):
        for words, rule in (
            ("0", ((0, 1),)), ("-5", ((-5, 1),)), ("1/2", ((1, 2),)), ("-1/2", ((-1, 2),)), ("7/5 -3 1/5", ((7, 5), (-3, 1), (1, 5))),
            ("0 0 0 0 0 0 0 1", ((0, 1),) * 7 + ((1, 1),)), ("1/10 " * 7 + "1/10", ((1, 10),) * 8),
            (SIXTY, ((10 ** 60 - 1, 1),)), ("-" + SIXTY, ((1 - 10 ** 60, 1),)), ("-" + "9" * 59 + "1/2", ((9 - 10 ** 60, 2),)),
            ("1/1" + "0" * 59, ((1, 10 ** 59),)), ("0 1/" + "1" + "0" * 59, ((0, 1), (1, 10 ** 59))),
        ):
            desk = Desk()
            self.assertEqual(desk.say(f"set 10 40 60 0 {words}"), "ok")
            self.check(desk, setting(rule, 10, 40, 60, 0), 60)

    def test_two_desks_side_by_side(self):
        one, other = Desk(), Desk()
        one.say(SQUARES)
        self.assertEqual(other.say("engine"), "engine 10 1;0 0;")
        other.say("set 2 3 0 0 1 1")
        self.assertEqual(one.say("engine"), "engine 10 4;0 0020;1 9985;2 0010;")
        one.say("turn 2")
        other.say("slip 1 0 1")
        self.assertEqual(one.say("engine"), "engine 10 4;0 0000;1 0005;2 0010;")
        self.assertEqual(other.say("engine"), "engine 2 3;0 001;1 000;")
        self.assertEqual(Desk().say("engine"), "engine 10 1;0 0;")

    def test_asking_changes_nothing(self):
        desk = Desk()
        desk.say(SQUARES)
        desk.say("turn 9")
        before = texts_of(desk)
        for again in range(3):
            self.assertEqual(texts_of(desk), before)

    def test_turning_by_nought(self):
        desk = Desk()
        desk.say(SQUARES)
        before = texts_of(desk)
        self.assertEqual(desk.say("turn 0"), "ok")
        self.assertEqual(texts_of(desk), before)


class TestRefusals(Desks):
    def some_desks(self):
        desks = [Desk(), Desk(), Desk()]
        desks[1].say(SQUARES)
        desks[1].say("turn 3")
        desks[2].say("set 16 3 2 5 1/16 0 -1/2")
        return desks

    def test_as_the_stages_refuse(self):
        long = "1" + "0" * 30
        for desk in self.some_desks():
            for error, row in (
                (NoRule, "set 10 3 0 0 1 0"), (NoRule, "set 10 3 0 0 0 0"), (NoRule, "set 10 3 0 0 1 1/2 0"),
                (NoBase, "set 1 3 0 0 1"), (NoBase, "set 17 3 0 0 1"), (NoBase, "set 0 3 0 0 1"), (NoBase, "set -10 3 0 0 1"),
                (NoBase, f"set {SIXTY} 3 0 0 1"), (NoWheels, "set 10 0 0 0 1"), (NoWheels, "set 10 41 0 0 1"), (NoWheels, "set 10 -1 0 0 1"),
                (NoPlaces, "set 10 3 -1 0 1"), (NoPlaces, "set 10 3 71 0 1"), (NoPlaces, f"set 10 3 -{SIXTY} 0 1"),
                (NoStart, f"set 10 3 0 {long} 1"), (NoStart, f"set 10 3 0 -{long} 1"), (NoStart, f"set 10 3 0 {SIXTY} 1"),
                (NoTurns, "turn 201"), (NoTurns, "turn -201"), (NoTurns, f"turn {SIXTY}"), (NoTurns, f"turn -{SIXTY}"),
                (NoSlip, "slip 8 0 1"), (NoSlip, "slip -1 0 1"), (NoSlip, "slip 0 40 1"), (NoSlip, "slip 0 -1 1"), (NoSlip, "slip 0 0 0"),
                (NoSlip, "slip 0 0 -1"), (NoSlip, "slip 0 0 16"), (NoSlip, f"slip {SIXTY} {SIXTY} {SIXTY}"),
                (NoColumn, "reads 3"), (NoColumn, "reads 8"), (NoColumn, "reads -1"), (NoColumn, f"reads {SIXTY}"),
                (NoPlaces, "prints -1"), (NoPlaces, "prints 71"), (NoPlaces, f"prints {SIXTY}"), (NoPlaces, f"prints -{SIXTY}"),
            ):
                self.refused_by(desk, error, row)

    def test_several_refusals_at_once(self):
        desk = Desk()
        wrong = ((NoBase, 0, "17"), (NoWheels, 1, "41"), (NoPlaces, 2, "71"), (NoStart, 3, "1" + "0" * 30))
        for chosen in range(1, 16):
            words, errors = ["10", "3", "0", "0"], []
            for at, (error, place, word) in enumerate(wrong):
                if chosen >> at & 1:
                    words[place] = word
                    errors.append(error)
            self.refused_by(desk, errors[0], " ".join(["set", *words, "1/3"]))
            self.refused_by(desk, NoRule, " ".join(["set", *words, "1/3", "0"]))
            self.refused_by(desk, NoRow, " ".join(["set", *words, "1/3", "2/4"]))
            self.refused_by(desk, NoRow, " ".join(["set", *words]))

    def test_slips_of_the_engine_that_is_kept(self):
        desk = Desk()
        desk.say("set 16 3 0 0 1 1")
        for row in ("slip 1 2 15", "slip 0 0 1"):
            self.assertEqual(desk.say(row), "ok")
        for row in ("slip 2 0 1", "slip 0 3 1", "slip 0 0 16", "slip 0 0 0"):
            self.refused_by(desk, NoSlip, row)
        desk.say("set 2 1 0 0 1")
        self.assertEqual(desk.say("slip 0 0 1"), "ok")
        for row in ("slip 1 0 1", "slip 0 1 1", "slip 0 0 2"):
            self.refused_by(desk, NoSlip, row)

    def test_not_whole(self):
        for desk in self.some_desks():
            for row, x in (
                ("set 10 3 0 0 1/3", 0), ("set 10 3 0 -7 1/3", -7), ("set 3 5 2 2 0 0 1/4", 3), ("set 3 5 2 -4 0 0 1/4", -3),
                ("set 10 40 70 5 0 1/3", 5), ("set 10 40 70 6 0 1/3", 7),
            ):
                self.assertEqual(self.refused_by(desk, NotWhole, row).x, x)

    def test_no_rows(self):
        for desk in self.some_desks():
            for row in NO_ROWS:
                self.refused_by(desk, NoRow, row)

    def test_no_texts(self):
        things = [thing for thing in NO_WHOLES if thing.__class__ is not str]
        for desk in self.some_desks():
            for thing in things + [0, 5, ["shows"], ("shows",), b"shows", {"shows": 1}, ["turn", "1"], [], Desk()]:
                self.refused_by(desk, NoRow, thing)

    def test_what_is_no_number(self):
        desk = self.some_desks()[1]
        for word in NO_NUMBERS:
            for row in ("turn {}", "reads {}", "prints {}", "slip {} 0 1", "slip 0 {} 1", "slip 0 0 {}",
                        "set {} 3 0 0 1", "set 10 {} 0 0 1", "set 10 3 {} 0 1", "set 10 3 0 {} 1"):
                self.refused_by(desk, NoRow, row.format(word))

    def test_what_is_no_fraction(self):
        desk = self.some_desks()[2]
        for word in NO_FRACTION_WORDS:
            for row in ("set 10 3 0 0 {}", "set 10 3 0 0 {} 1", "set 10 3 0 0 1 {}", "set 10 3 0 0 1 {} 1"):
                self.refused_by(desk, NoRow, row.format(word))

    def test_no_row_goes_ahead_of_all(self):
        desk = self.some_desks()[0]
        for row in (
            "set 99 99 99 99 1/3 x", "set 99 99 99 -0 1", "turn 999 1", "turn 0999", "slip 99 99 +99", "slip 99 99 99 99", "reads 99 99",
            "prints 99 ", "set 17 41 71 1 1 00", "set 17 41 71 1" + " 1/3" * 9, "set 10 3 0 0 1/3 2/6",
        ):
            self.refused_by(desk, NoRow, row)

    def test_numbers_of_sixty_figures_are_numbers(self):
        desk = Desk()
        self.refused_by(desk, NoTurns, "turn " + SIXTY)
        self.refused_by(desk, NoRow, "turn " + SIXTY_ONE)
        self.refused_by(desk, NoTurns, "turn -" + SIXTY)
        self.refused_by(desk, NoRow, "turn -" + SIXTY_ONE)
        self.refused_by(desk, NotWhole, "set 10 3 0 0 1/" + "7" * 60)
        self.refused_by(desk, NoRow, "set 10 3 0 0 1/" + "7" * 61)
        self.assertEqual(desk.say("set 10 40 0 0 " + SIXTY), "ok")
        self.assertEqual(desk.say("shows"), "9" * 40)
        self.refused_by(desk, NoRow, "set 10 40 0 0 " + SIXTY_ONE)
        self.refused_by(desk, NoRow, "set 10 40 0 0 -" + SIXTY_ONE)


if __name__ == "__main__":
    unittest.main()
