import itertools
import unittest
from fractions import Fraction

from cranktables.engines import Engine
from cranktables.errors import NoBase, NoFraction, NoPlaces, NoPrint, NoTurns
from cranktables.printing import page, printed, read_printed
from cranktables.turning import turned
from tests.makers import any_fraction, known, pair_of, plain_column, some_engines
from tests.test_figures import NO_BASES
from tests.test_fractions import NO_FRACTIONS
from tests.test_rounding import plain_rounded
from tests.test_settings import NO_PLACES, plain_reading
from tests.test_turning import NO_TURNS
from tests.things import NO_WHOLES, Refusing, dice, long_number

SIGNS = "0123456789abcdef"
NO_ROWS = NO_WHOLES + [-1, -2, -50, 51, 52, 200, 1000, 10 ** 59, -10 ** 59]
NO_PRINTS = [
    "", " ", "-", ".", "-.", "--1", "+1", "+0", "+1.5", "1+", "1-", "01", "00", "007", "00.5", "01.5", "-01", "-01.5", "-00.5",
    "-0", "-0.0", "-0.00", "-0." + "0" * 70, ".5", "-.5", "1.", "-1.", "0.", "1.2.3", "1..2", "..", "1.2.", ".1.2", " 1", "1 ",
    " 1.5", "1.5 ", "1 .5", "1. 5", "- 1", "1 000", "1,5", "1,000", "1/2", "1e5", "1_000", "0x1", "\t1", "1\t", "1\n", "\n1", "1\n2",
    "1.5\n", "1.\n5", "1.-5", "-1.-5", "0.5-", "x", "~", "1.5x", "one", "None", "True", "()", "(1, 2)", "0." + "0" * 71,
    "1." + "0" * 71, "-1." + "1" * 71, "0." + "1" * 72, "1." + "0" * 200,
]
GREAT_LETTERS = ["A", "F", "1A", "A.1", "0.A", "0.F", "-A", "-0.A", "aA"]


def plain_figures(number, base, wheels):
    return "".join(SIGNS[figure] for figure in plain_column(number, base, wheels))


def plain_print(units, base, places):
    """The text of so many units by its own words."""
    size = abs(units)
    whole, rest = size // base ** places, size % base ** places
    wheels = 1
    while base ** wheels <= whole:
        wheels += 1
    text = ("-" if units < 0 else "") + plain_figures(whole, base, wheels)
    return text + ("." + plain_figures(rest, base, places) if places else "")


def plain_printed(value, base, places):
    return plain_print(plain_rounded(value * base ** places), base, places)


class TestPrinted(unittest.TestCase, Refusing):
    def check(self, value, base, places):
        told = printed(pair_of(value), base, places)
        self.assertIs(type(told), str)
        self.assertEqual(told, plain_printed(value, base, places))
        self.assertEqual(printed(pair_of(value), base, places), told)
        units = plain_rounded(value * base ** places)
        again = read_printed(told, base)
        self.assertIs(type(again), tuple)
        self.assertEqual(again, pair_of(Fraction(units, base ** places)))
        self.assertEqual(printed(again, base, places), told)

    def test_plain_ones(self):
        for value, base, places, wanted in (
            ((0, 1), 10, 0, "0"), ((0, 1), 10, 1, "0.0"), ((0, 1), 2, 3, "0.000"), ((7, 1), 10, 0, "7"),
            ((-7, 1), 10, 0, "-7"), ((-7, 1), 10, 2, "-7.00"), ((1, 3), 10, 4, "0.3333"), ((2, 3), 10, 4, "0.6667"),
            ((-2, 3), 10, 4, "-0.6667"), ((1, 2), 10, 0, "0"), ((3, 2), 10, 0, "2"), ((5, 2), 10, 0, "2"),
            ((-1, 2), 10, 0, "0"), ((-3, 2), 10, 0, "-2"), ((-1, 3), 10, 0, "0"), ((-1, 1000), 10, 2, "0.00"),
            ((-1, 200), 10, 2, "0.00"), ((-3, 200), 10, 2, "-0.02"), ((1, 200), 10, 2, "0.00"), ((3, 200), 10, 2, "0.02"),
            ((999, 1000), 10, 2, "1.00"), ((-999, 1000), 10, 2, "-1.00"), ((9999, 1000), 10, 2, "10.00"),
            ((255, 1), 16, 0, "ff"), ((-2748, 1), 16, 1, "-abc.0"), ((1, 16), 16, 1, "0.1"), ((15, 16), 16, 1, "0.f"),
            ((31, 32), 16, 1, "1.0"), ((5, 4), 2, 2, "1.01"), ((5, 4), 2, 1, "1.0"), ((7, 4), 2, 1, "10.0"), ((11, 1), 12, 0, "b"),
            ((123456789, 1000), 10, 3, "123456.789"),
        ):
            self.assertEqual(printed(value, base, places), wanted)

    def test_small_ones(self):
        for top in range(-40, 41):
            for bottom in range(1, 14):
                for base, places in ((10, 0), (10, 1), (10, 2), (2, 0), (2, 2), (16, 1), (3, 1)):
                    self.check(Fraction(top, bottom), base, places)

    def test_halves_of_a_unit(self):
        for base in range(2, 17):
            for places in (0, 1, 2, 7, 69, 70):
                unit = Fraction(1, base ** places)
                for halves in list(range(-9, 10)) + [base ** 3 + 1, -base ** 3 - 1, 2 * base ** 4 - 1, 1 - 2 * base ** 4]:
                    for aside in (0, Fraction(1, 10 ** 9), -Fraction(1, 10 ** 9)):
                        self.check(unit * (Fraction(halves, 2) + aside), base, places)

    def test_each_base_and_places(self):
        source = dice(211)
        for base in range(2, 17):
            for places in range(71):
                self.check(Fraction(*any_fraction(source, 9)), base, places)

    def test_long_ones(self):
        source = dice(212)
        for base in (2, 10, 11, 16):
            for places in (0, 1, 35, 70):
                for again in range(12):
                    self.check(Fraction(*any_fraction(source, 60)), base, places)
                self.check(Fraction(10 ** 60 - 1), base, places)
                self.check(Fraction(1 - 10 ** 60), base, places)
                self.check(Fraction(1, 10 ** 60 - 1), base, places)
                self.check(Fraction(-1, 10 ** 60 - 1), base, places)

    def test_noughts_within_and_at_the_end(self):
        for base in (2, 10, 16):
            for power in range(0, 9):
                for places in (0, 1, 3, 8):
                    for top in (base ** power, base ** power + 1, base ** power - 1):
                        self.check(Fraction(top, base ** 4), base, places)
                        self.check(Fraction(-top, base ** 4), base, places)

    def test_what_was_told_is_handed_in_again(self):
        long = Fraction(7 ** 6000 + 1, 3)
        text = printed(pair_of(long), 10, 3)
        self.assertEqual(text[-4:], plain_printed(long, 10, 3)[-4:])
        self.assertEqual(text, plain_printed(long, 10, 3))
        self.assertGreater(len(text), 5000)

    def test_refusals(self):
        wrong = [(NoFraction, 0, NO_FRACTIONS), (NoBase, 1, NO_BASES), (NoPlaces, 2, NO_PLACES)]
        self.refused_in_order(printed, [(5, 2), 10, 3], wrong)


class TestReadPrinted(unittest.TestCase, Refusing):
    def test_plain_ones(self):
        for text, base, wanted in (
            ("0", 10, (0, 1)), ("0.00", 10, (0, 1)), ("-0.01", 10, (-1, 100)), ("1.50", 10, (3, 2)), ("12", 10, (12, 1)),
            ("-12.5", 10, (-25, 2)), ("ff", 16, (255, 1)), ("0.8", 16, (1, 2)), ("-a.8", 16, (-21, 2)), ("10.01", 2, (9, 4)),
            ("0." + "0" * 69 + "1", 10, (1, 10 ** 70)), ("0." + "0" * 70, 2, (0, 1)), ("e5", 15, (215, 1)),
        ):
            told = read_printed(text, base)
            self.assertIs(type(told), tuple)
            self.assertEqual(told, wanted)
            self.assertEqual(read_printed(text, base), wanted)

    def test_all_short_texts(self):
        """Just what some fraction is printed as is read, and as that one."""
        for base, signs in ((2, "012.-"), (10, "0159.-")):
            texts = {
                plain_print(units, base, places): pair_of(Fraction(units, base ** places))
                for places in range(4) for units in range(-base ** 4, base ** 4)
            }
            for size in range(5):
                for letters in itertools.product(signs, repeat=size):
                    text = "".join(letters)
                    if text in texts:
                        self.assertEqual(read_printed(text, base), texts[text])
                    else:
                        self.refused(NoPrint, read_printed, text, base)

    def test_all_short_texts_of_sixteen(self):
        for size in range(5):
            for letters in itertools.product("09aF.-", repeat=size):
                self.check_other("".join(letters), 16)

    def test_no_prints(self):
        for base in (2, 10, 11, 16):
            for text in NO_PRINTS + GREAT_LETTERS:
                self.refuse_text(text, base)

    def refuse_text(self, text, base):
        # In base 15 and 16 an e is a figure, all others of these signs are none in any base.
        if text == "1e5" and base > 14:
            self.assertEqual(read_printed(text, base), (base * base + 14 * base + 5, 1))
        else:
            self.refused(NoPrint, read_printed, text, base)

    def test_figures_beside_the_base(self):
        for base in range(2, 17):
            last = SIGNS[base - 1]
            self.assertEqual(read_printed("1" + last, base), (2 * base - 1, 1))
            self.assertEqual(read_printed("-0." + last, base), (1 - base, base))
            if base < 16:
                beside = SIGNS[base]
                for text in (beside, "-" + beside, "1" + beside, "0." + beside, beside + ".0", "1.0" + beside, "0" + beside):
                    self.refused(NoPrint, read_printed, text, base)
            for sign in "ghzABCDEFG~!/:@`":
                for text in (sign, "1" + sign, "1." + sign, "0.1" + sign + "1"):
                    self.refused(NoPrint, read_printed, text, base)

    def test_any_sign_put_in_or_left_out(self):
        source = dice(213)
        signs = [chr(sign) for sign in range(32, 127)] + ["\t", "\n"]
        for base in (2, 10, 16):
            for again in range(12):
                units, places = source.randint(-9 ** 5, 9 ** 5), source.randint(0, 5)
                text = plain_print(units, base, places)
                for at in range(len(text) + 1):
                    for sign in signs:
                        self.check_other(text[:at] + sign + text[at:], base)
                    self.check_other(text[:at] + text[at + 1:], base)

    def check_other(self, text, base):
        """Read or refused as by a plain reading of what is printed."""
        body = text[1:] if text[:1] == "-" else text
        whole, point, behind = body.partition(".")
        fits = bool(whole) and all(sign in SIGNS[:base] for sign in whole + behind)
        if point and not behind:
            fits = False
        if len(whole) > 1 and whole[0] == "0":
            fits = False
        if fits and text[0] == "-" and not (whole + behind).strip("0"):
            fits = False
        if fits:
            units = int(whole + behind, base) * (-1 if text[0] == "-" else 1)
            self.assertEqual(read_printed(text, base), pair_of(Fraction(units, base ** len(behind))))
        else:
            self.refused(NoPrint, read_printed, text, base)

    def test_seventy_figures_and_one_more(self):
        for base in (2, 10, 16):
            for figure in "01":
                self.assertEqual(
                    read_printed("1." + figure * 70, base), pair_of(Fraction(int("1" + figure * 70, base), base ** 70)),
                )
                self.refused(NoPrint, read_printed, "1." + figure * 71, base)

    def test_three_hundred_signs(self):
        source = dice(214)
        for base in (2, 10, 16):
            for places in (0, 1, 70):
                whole = "1" + "".join(source.choice(SIGNS[:base]) for figure in range(297 - places - (1 if places else 0)))
                behind = "".join(source.choice(SIGNS[:base]) for figure in range(places))
                text = "-" + whole + ("." + behind if places else "")
                self.assertLessEqual(len(text), 300)
                wanted = pair_of(Fraction(-int(whole + behind, base), base ** places))
                self.assertEqual(read_printed(text, base), wanted)
                self.assertEqual(printed(wanted, base, places), text)

    def test_refusals(self):
        things = [thing for thing in NO_WHOLES if thing.__class__ is not str]
        wrong = [(NoBase, 1, NO_BASES), (NoPrint, 0, things + [0, 5, (1, 2), [], ["1"], ("1",), b"1"] + NO_PRINTS)]
        self.refused_in_order(read_printed, ["10.01", 10], wrong)


class TestPage(unittest.TestCase, Refusing):
    def check(self, engine, places, shown, first, many):
        before, base = known(engine), engine.base()
        told = page(engine, places, shown, first, many)
        self.assertIs(type(told), list)
        wanted = []
        column = turned(engine, first)
        for turn in range(first, first + many):
            reading = Fraction(plain_reading(column.column(0), base), base ** places)
            wanted.append(str(turn) + " " + plain_printed(reading, base, shown))
            column = turned(column, 1)
        self.assertEqual(told, wanted)
        again = page(engine, places, shown, first, many)
        again.append("more")
        self.assertEqual(page(engine, places, shown, first, many), told)
        self.assertEqual(known(engine), before)

    def test_plain_ones(self):
        squares = Engine(10, [(0, 0, 0), (0, 0, 1), (0, 0, 2)])
        self.assertEqual(page(squares, 0, 0, 0, 4), ["0 0", "1 1", "2 4", "3 9"])
        self.assertEqual(page(squares, 1, 1, -2, 4), ["-2 0.4", "-1 0.1", "0 0.0", "1 0.1"])
        self.assertEqual(page(squares, 2, 1, 4, 3), ["4 0.2", "5 0.2", "6 0.4"])
        self.assertEqual(page(squares, 1, 3, 3, 1), ["3 0.900"])
        self.assertEqual(page(squares, 0, 0, 22, 2), ["22 484", "23 -471"])
        self.assertEqual(page(Engine(16, [(14, 15), (15, 5)]), 1, 2, 0, 2), ["0 -1.10", "1 -1.c0"])
        self.assertEqual(page(Engine(10, [(9, 9)]), 2, 1, 0, 1), ["0 0.0"])
        self.assertEqual(page(squares, 0, 0, 200, 0), [])

    def test_some_engines(self):
        source = dice(215)
        for engine in some_engines(216):
            places, shown = source.choice((0, 1, 3, 20, 70)), source.choice((0, 1, 3, 20, 70))
            self.check(engine, places, shown, source.choice((-200, -60, -3, -1, 0, 1, 150, 200)), source.choice((0, 1, 2, 5)))

    def test_first_turns_and_rows(self):
        engine = Engine(10, [(1, 2, 3, 4), (5, 6, 7, 8), (9, 0, 1, 2), (3, 4, 5, 6)])
        for first in (-200, -199, -51, -50, -49, -1, 0, 1, 199, 200):
            for many in (0, 1, 2, 49, 50):
                self.check(engine, 2, 1, first, many)

    def test_places_and_places_shown(self):
        engine = Engine(10, [(9, 9, 8, 7, 5), (0, 0, 0, 2, 5)])
        for places in (0, 1, 2, 3, 69, 70):
            for shown in (0, 1, 2, 3, 69, 70):
                self.check(engine, places, shown, -3, 9)

    def test_refusals(self):
        wrong = [(NoPlaces, 1, NO_PLACES), (NoPlaces, 2, NO_PLACES), (NoTurns, 3, NO_TURNS), (NoTurns, 4, NO_ROWS)]
        for engine in (Engine(10, [(1, 2), (3, 4)]), Engine(2, [(0,)])):
            before = known(engine)
            self.refused_in_order(page, [engine, 3, 2, 200, 50], wrong)
            self.refused_in_order(page, [engine, 0, 70, -200, 0], wrong)
            self.assertEqual(known(engine), before)


if __name__ == "__main__":
    unittest.main()
