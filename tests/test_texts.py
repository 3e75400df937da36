import re
import unittest

from cranktables.engines import Engine
from cranktables.errors import NoText
from cranktables.texts import read_engine, show_engine
from tests.makers import any_columns, known, some_engines
from tests.things import NO_WHOLES, Refusing, dice

SIGNS = "0123456789abcdef"
PUT_IN = SIGNS + " \n\tgenAFx-+_.,;/~"
HEAD = re.compile(r"engine (2|3|4|5|6|7|8|9|10|11|12|13|14|15|16) ([1-9]|[123][0-9]|40)\Z")


def plain_text(engine):
    rows = ["engine " + str(engine.base()) + " " + str(engine.wheels())]
    for k, column in enumerate(engine.columns()):
        rows.append(str(k) + " " + "".join("0123456789abcdef"[figure] for figure in column))
    return "".join(row + "\n" for row in rows)


def parts_of(text):
    """The base, wheels and columns that a text tells, or None; found by patterns."""
    rows = text.split("\n")
    head = HEAD.match(rows[0])
    if head is None or rows[-1] != "" or not 3 <= len(rows) <= 10:
        return None
    base, wheels = int(head[1]), int(head[2])
    figures = "[" + SIGNS[:base] + "]{" + str(wheels) + "}"
    columns = []
    for k, row in enumerate(rows[1:-1]):
        found = re.fullmatch(str(k) + " (" + figures + ")", row)
        if found is None:
            return None
        columns.append(tuple(int(sign, 16) for sign in found[1]))
    return (base, wheels, columns)


class TestShown(unittest.TestCase):
    def test_plain_ones(self):
        self.assertEqual(show_engine(Engine(10, [(0, 4, 1), (9, 9, 8)])), "engine 10 3\n0 041\n1 998\n")
        self.assertEqual(show_engine(Engine(16, [(10, 11, 12, 13, 14, 15, 9)])), "engine 16 7\n0 abcdef9\n")
        self.assertEqual(show_engine(Engine(2, [(1,)])), "engine 2 1\n0 1\n")

    def test_some_engines(self):
        for engine in some_engines(63, bases=range(2, 17)):
            before = known(engine)
            text = show_engine(engine)
            self.assertEqual(text, plain_text(engine))
            self.assertEqual(known(engine), before)
            again = read_engine(text)
            self.assertIs(type(again), Engine)
            self.assertEqual(known(again), before)
            self.assertEqual(show_engine(again), text)
            self.assertEqual(show_engine(engine), text)

    def test_the_greatest(self):
        engine = Engine(16, [(15,) * 40] * 8)
        text = "engine 16 40\n" + "".join(f"{k} {'f' * 40}\n" for k in range(8))
        self.assertEqual(show_engine(engine), text)
        self.assertEqual(known(read_engine(text)), known(engine))


class TestRead(unittest.TestCase, Refusing):
    def check(self, text):
        """Whether it was read; it is read just where it tells an engine."""
        wanted = parts_of(text)
        if wanted is None:
            self.refused(NoText, read_engine, text)
            return False
        engine = read_engine(text)
        self.assertEqual(known(engine), wanted)
        self.assertEqual(show_engine(engine), text)
        return True

    def texts(self):
        source = dice(64)
        return [
            show_engine(Engine(base, any_columns(source, base, wheels, many)))
            for base, wheels, many in ((2, 1, 1), (10, 3, 2), (11, 12, 3), (16, 2, 8), (9, 40, 1), (16, 20, 2))
        ]

    def test_a_sign_put_in_at_each_place(self):
        for text in self.texts():
            for at in range(len(text) + 1):
                for sign in PUT_IN:
                    read = self.check(text[:at] + sign + text[at:])
                    # Only a text with another base can come of it: 12 in the place of 2.
                    self.assertTrue(not read or 7 <= at <= 9, (text, at, sign))

    def test_a_sign_left_out_at_each_place(self):
        for text in self.texts():
            for at in range(len(text)):
                read = self.check(text[:at] + text[at + 1:])
                self.assertTrue(not read or 7 <= at <= 8, (text, at))
                # Whole rows left out at the end tell an engine with fewer columns.
                self.check(text[:at])
                self.check(text[at:])

    def test_a_sign_exchanged_at_each_place(self):
        read = 0
        for text in self.texts():
            for at in range(len(text)):
                for sign in PUT_IN:
                    read += self.check(text[:at] + sign + text[at + 1:])
                self.check(text[:at] + text[at:at + 2][::-1] + text[at + 2:])
        self.assertGreater(read, 100)

    def test_noughts_ahead(self):
        for text in (
            "engine 010 2\n0 12\n", "engine 10 02\n0 12\n", "engine 10 2\n00 12\n", "engine 10 2\n0 012\n",
            "engine 02 2\n0 10\n", "engine 10 2\n0 12\n01 12\n", "engine +10 2\n0 12\n", "engine 10 +2\n0 12\n",
        ):
            self.refused(NoText, read_engine, text)

    def test_great_letters(self):
        self.assertEqual(read_engine("engine 16 2\n0 af\n").columns(), [(10, 15)])
        for text in ("engine 16 2\n0 AF\n", "engine 16 2\n0 aF\n", "Engine 16 2\n0 af\n", "ENGINE 16 2\n0 af\n"):
            self.refused(NoText, read_engine, text)

    def test_figures_of_the_base_only(self):
        for base in range(2, 17):
            for figure, sign in enumerate(SIGNS + "g"):
                text = f"engine {base} 3\n0 0{sign}1\n"
                if figure < base:
                    self.assertEqual(read_engine(text).columns(), [(0, figure, 1)])
                else:
                    self.refused(NoText, read_engine, text)

    def test_bases_and_wheels(self):
        for base in (0, 1, 17, 20, 30, 40, 100, 10 ** 59, -10):
            self.refused(NoText, read_engine, f"engine {base} 2\n0 01\n")
        for wheels in (0, 41, 42, 100, 10 ** 59, -2):
            self.refused(NoText, read_engine, f"engine 10 {wheels}\n0 {'0' * min(abs(wheels), 60)}\n")
        for told in range(1, 41):
            for wheels in range(1, 43):
                self.assertEqual(self.check(f"engine 10 {told}\n0 {'7' * wheels}\n"), told == wheels)
        self.refused(NoText, read_engine, "engine 10 2\n0 01\n1 012\n")
        self.refused(NoText, read_engine, "engine 10 2\n0 01\n1 0\n")
        self.refused(NoText, read_engine, "engine 10 2\n0 01\n1 \n")

    def test_rows(self):
        head, rows = "engine 10 2\n", [f"{k} {k}{9 - k}\n" for k in range(12)]
        for many in range(12):
            self.assertEqual(self.check(head + "".join(rows[:many])), 1 <= many <= 8)
        for one in range(8):
            told = rows[:8]
            self.refused(NoText, read_engine, head + "".join(told[:one + 1] + told[one:]))
            if one < 7:
                self.refused(NoText, read_engine, head + "".join(told[:one] + told[one + 1:]))
            for other in range(one):
                exchanged = list(told)
                exchanged[one], exchanged[other] = told[other], told[one]
                self.refused(NoText, read_engine, head + "".join(exchanged))
        text = head + "".join(rows[:3])
        self.assertTrue(self.check(text))
        for wrong in (
            text[:-1], text + "\n", "\n" + text, text + " ", text + head, head + text, text + text,
            "".join(rows[:3]), "".join(rows[:3]) + head, head + "\n" + "".join(rows[:3]), text.replace("\n", " "),
            text.replace("\n", "\n\n"), text.replace(" ", "  "), text.replace(" ", "\t"), text.replace(" ", ""),
            text.replace("\n", " \n"), text.replace("\n", ";"), text.replace("\n", "\r\n"), "", "\n", " ", "engine",
            head, head + "\n", head + " \n",
        ):
            self.refused(NoText, read_engine, wrong)

    def test_no_texts(self):
        text = "engine 10 2\n0 12\n"
        for thing in NO_WHOLES + [0, 10, text.encode(), [text], (text,), text.split("\n"), {text: text}, Engine(2, [(0,)])]:
            self.refused(NoText, read_engine, thing)


if __name__ == "__main__":
    unittest.main()
