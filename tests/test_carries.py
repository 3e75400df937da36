import itertools
import unittest

from cranktables.carries import added, borrowed, carried, half_beats, taken
from cranktables.engines import Engine
from cranktables.errors import NoBase, NoColumn
from tests.makers import known, plain_column, plain_numbers, some_engines
from tests.test_figures import NO_BASES, no_columns, plain_number
from tests.test_turning import plain_half
from tests.things import NO_WHOLES, Refusing, dice

ALL = (added, taken, carried, borrowed)


def plain_beats(base, one, other, sign):
    """As the page tells it, a wheel being its figure and whether it is warned."""
    shown = {wheel: figure for wheel, figure in enumerate(reversed(other))}
    by = {wheel: figure for wheel, figure in enumerate(reversed(one))}
    warned, beats, lost, ever = set(), [], 0, []
    for wheel in shown:
        for step in range(by[wheel]):
            shown[wheel] += sign
            if shown[wheel] in (-1, base):
                shown[wheel] = 0 if sign > 0 else base - 1
                warned.add(wheel)
    behind_first, first_warned = dict(shown), set(warned)
    while warned:
        ever += sorted(warned)
        lost += len(other) - 1 in warned
        moving = sorted(wheel + 1 for wheel in warned if wheel + 1 < len(other))
        warned = set()
        if moving:
            beats.append(moving)
        for wheel in moving:
            shown[wheel] += sign
            if shown[wheel] in (-1, base):
                shown[wheel] = 0 if sign > 0 else base - 1
                warned.add(wheel)
    assert len(ever) == len(set(ever))
    column = tuple(shown[wheel] for wheel in reversed(range(len(other))))
    return column, beats, lost, behind_first, first_warned


def longest_run(base, wheels, sign, shown, warned):
    """The longest run by its own words, of what stands behind the first moving."""
    longest = 0
    for wheel in warned:
        if wheel == wheels - 1:
            continue
        run, above = 0, wheel + 1
        while above < wheels and shown[above] == (base - 1 if sign > 0 else 0):
            run, above = run + 1, above + 1
        longest = max(longest, run + (above < wheels))
    return longest


def some_pairs(seed):
    """Pairs of columns of the same base and as many wheels: plain, drawn, and with long runs."""
    source = dice(seed)
    for base in range(2, 17):
        for wheels in (1, 2, 3, 5, 13, 39, 40):
            noughts, lasts, one = (0,) * wheels, (base - 1,) * wheels, plain_column(1, base, wheels)
            for column in (noughts, lasts, one):
                for other in (noughts, lasts, one):
                    yield base, column, other
            drawn = tuple(source.randrange(base) for wheel in range(wheels))
            for other in (noughts, lasts, one, drawn, tuple(base - 1 - figure for figure in drawn)):
                yield base, drawn, other
                yield base, other, drawn
            for again in range(3):
                runs = [source.choice((0, 0, 0, 0, base - 1, source.randrange(base))) for wheel in range(wheels)]
                filled = [base - 1 - figure if source.randrange(9) else source.randrange(base) for figure in runs]
                like = [figure if source.randrange(9) else source.randrange(base) for figure in runs]
                yield base, tuple(runs), tuple(filled)
                yield base, tuple(runs), tuple(like)


class TestSums(unittest.TestCase, Refusing):
    def check(self, base, one, other):
        for sign, function, comes in ((1, added, carried), (-1, taken, borrowed)):
            told = function(base, one, other)
            column, beats, lost, shown, warned = plain_beats(base, one, other, sign)
            self.assertEqual(told, (column, beats, lost))
            self.assertIs(type(told), tuple)
            self.assertIs(type(told[0]), tuple)
            self.assertIs(type(told[1]), list)
            self.assertTrue(all(type(beat) is list for beat in told[1]))
            self.assertIs(type(told[2]), int)
            self.check_numbers(base, one, other, sign, told)
            self.assertEqual(len(told[1]), longest_run(base, len(other), sign, shown, warned))
            moved = [wheel for beat in told[1] for wheel in beat]
            self.assertEqual(len(moved), len(set(moved)))
            wanted = [1 if wheel in moved else 0 for wheel in range(len(other))]
            self.assertEqual(comes(base, one, other), wanted)
            self.assertTrue(all(type(part) is int for part in comes(base, one, other)))

    def check_numbers(self, base, one, other, sign, told):
        plain = plain_number(other, base) + sign * plain_number(one, base)
        modulus = base ** len(other)
        self.assertEqual(plain_number(told[0], base), plain % modulus)
        self.assertEqual(told[2], 0 if 0 <= plain < modulus else 1)
        self.assertLessEqual(len(told[1]), len(other) - 1)

    def test_plain_ones(self):
        self.assertEqual(added(10, (0, 2, 5), (1, 3, 4)), ((1, 5, 9), [], 0))
        self.assertEqual(added(10, (0, 2, 5), (1, 3, 5)), ((1, 6, 0), [[1]], 0))
        self.assertEqual(added(10, (0, 0, 1), (0, 9, 9)), ((1, 0, 0), [[1], [2]], 0))
        self.assertEqual(added(10, (5, 5, 5), (5, 5, 5)), ((1, 1, 0), [[1, 2]], 1))
        self.assertEqual(added(10, (5,), (5,)), ((0,), [], 1))
        self.assertEqual(taken(10, (1, 3, 4), (2, 5, 9)), ((1, 2, 5), [], 0))
        self.assertEqual(taken(10, (0, 0, 1), (1, 0, 0)), ((0, 9, 9), [[1], [2]], 0))
        self.assertEqual(taken(2, (1,), (0,)), ((1,), [], 1))

    def test_one_is_taken_from_the_other(self):
        self.assertEqual(taken(10, (0, 3), (1, 2)), ((0, 9), [[1]], 0))
        self.assertEqual(taken(10, (1, 2), (0, 3)), ((9, 1), [], 1))
        self.assertEqual(borrowed(10, (0, 3), (1, 2)), [0, 1])
        self.assertEqual(borrowed(10, (1, 2), (0, 3)), [0, 0])

    def test_a_run_to_the_highest_wheel(self):
        for base in (2, 9, 10, 16):
            for wheels in (2, 3, 40):
                beats = [[wheel] for wheel in range(1, wheels)]
                low, lasts, noughts = plain_column(1, base, wheels), (base - 1,) * wheels, (0,) * wheels
                self.assertEqual(added(base, low, lasts), (noughts, beats, 1))
                self.assertEqual(added(base, lasts, low), (noughts, beats, 1))
                self.assertEqual(taken(base, low, noughts), (lasts, beats, 1))
                self.assertEqual(carried(base, low, lasts), [0] + [1] * (wheels - 1))
                self.assertEqual(borrowed(base, low, noughts), [0] + [1] * (wheels - 1))

    def test_two_runs_at_once(self):
        one, other = (0, 0, 0, 5, 0, 0, 0, 1), (0, 9, 9, 5, 3, 9, 9, 9)
        self.assertEqual(added(10, one, other), ((1, 0, 0, 0, 4, 0, 0, 0), [[1, 5], [2, 6], [3, 7]], 0))
        self.assertEqual(carried(10, one, other), [0, 1, 1, 1, 0, 1, 1, 1])
        one, other = (0, 0, 0, 5, 0, 0, 1), (1, 0, 0, 4, 3, 0, 0)
        self.assertEqual(taken(10, one, other), ((0, 9, 9, 9, 2, 9, 9), [[1, 4], [2, 5], [6]], 0))
        self.assertEqual(borrowed(10, one, other), [0, 1, 1, 0, 1, 1, 1])

    def test_all_short_columns(self):
        for base, wheels in ((2, 1), (2, 2), (2, 3), (2, 4), (3, 2), (3, 3), (4, 2), (16, 1)):
            columns = list(itertools.product(range(base), repeat=wheels))
            for one in columns:
                for other in columns:
                    self.check(base, one, other)

    def test_some_pairs(self):
        for base, one, other in some_pairs(91):
            self.check(base, one, other)

    def test_a_column_and_itself(self):
        for base, one, other in some_pairs(92):
            self.check(base, other, other)
            self.assertEqual(taken(base, other, other), ((0,) * len(other), [], 0))

    def test_the_order_of_the_two_counts(self):
        for base, one, other in some_pairs(93):
            told = taken(base, one, other)
            if one != other:
                self.assertNotEqual(told[2], taken(base, other, one)[2])
            self.assertEqual(added(base, one, told[0])[0], other)

    def test_what_is_told_is_the_askers(self):
        handed = (10, (0, 5, 0, 0, 0, 1), (0, 5, 3, 9, 9, 9))
        for function in (added, taken):
            first = function(*handed)
            kept = (first[0], [list(beat) for beat in first[1]], first[2])
            for beat in first[1]:
                beat.append("more")
            first[1].append(["more"])
            self.assertEqual(function(*handed), kept)
        for function in (carried, borrowed):
            first = function(*handed)
            kept = list(first)
            first[0] = "changed"
            first.append("more")
            self.assertEqual(function(*handed), kept)
        self.assertEqual(len(added(*handed)[1]), 3)

    def test_no_base_ahead_of_all_else(self):
        for function in ALL:
            for thing in NO_BASES:
                self.refused(NoBase, function, thing, (0, 1), (1, 0))
                self.refused(NoBase, function, thing, (0, 1), (1,))
                self.refused(NoBase, function, thing, thing, thing)
                for other in NO_WHOLES:
                    self.refused(NoBase, function, thing, other, (1, 0))
                    self.refused(NoBase, function, thing, (0, 1), other)

    def test_no_columns_at_either_place(self):
        for function in ALL:
            for base in (2, 3, 10, 15, 16):
                for thing in no_columns(base):
                    self.refused(NoColumn, function, base, thing, (0, 1))
                    self.refused(NoColumn, function, base, (0, 1), thing)
                    self.refused(NoColumn, function, base, thing, thing)

    def test_no_columns_of_as_many_wheels(self):
        for function in ALL:
            for base in (2, 10, 16):
                for one, other in itertools.permutations((1, 2, 3, 39, 40, 41), 2):
                    self.refused(NoColumn, function, base, (1,) * one, (0,) * other)

    def test_lists_stay_as_they_were(self):
        for function in ALL:
            one, other = [1, 2], [3, 4]
            self.refused(NoColumn, function, 10, one, (3, 4))
            self.refused(NoColumn, function, 10, (1, 2), other)
            self.assertEqual((one, other), ([1, 2], [3, 4]))


class TestHalfBeats(unittest.TestCase):
    def wanted(self, engine):
        base, wheels = engine.base(), engine.wheels()
        counts = []
        numbers = plain_numbers(engine)
        for start in (1, 2):
            columns = [plain_column(number, base, wheels) for number in numbers]
            beats = [0]
            for k in range(start, len(columns), 2):
                beats.append(len(plain_beats(base, columns[k], columns[k - 1], 1)[1]))
            counts.append(max(beats))
            numbers = plain_half(numbers, start, 1)
        return tuple(counts)

    def test_plain_ones(self):
        self.assertEqual(half_beats(Engine(10, [(9, 9, 9)])), (0, 0))
        self.assertEqual(half_beats(Engine(10, [(9, 9, 9), (0, 0, 1)])), (2, 0))
        self.assertEqual(half_beats(Engine(10, [(0, 0, 1), (9, 9, 9)])), (2, 0))
        self.assertEqual(half_beats(Engine(10, [(0, 0, 0), (9, 9, 9), (0, 0, 1)])), (0, 2))
        self.assertEqual(half_beats(Engine(10, [(0, 0, 0), (0, 0, 0), (0, 0, 1)])), (0, 0))

    def test_the_second_half_is_of_what_the_first_one_left(self):
        # Column 2 becomes 001 in the first half, and only so column 1 has to carry on.
        self.assertEqual(half_beats(Engine(10, [(0, 0, 0), (9, 9, 9), (0, 0, 0), (0, 0, 1)])), (0, 2))
        self.assertEqual(half_beats(Engine(10, [(0, 0, 0), (9, 9, 9), (0, 0, 1), (9, 9, 9)])), (2, 0))

    def test_the_greatest_of_several_sums(self):
        low, high, middle, noughts = (0, 0, 0, 1), (9, 9, 9, 9), (0, 0, 0, 9), (0, 0, 0, 0)
        self.assertEqual(half_beats(Engine(10, [high, low, middle, low])), (3, 0))
        self.assertEqual(half_beats(Engine(10, [middle, low, high, low]))[0], 3)
        self.assertEqual(half_beats(Engine(10, [noughts, high, low, noughts, noughts, middle, low])), (0, 3))
        self.assertEqual(half_beats(Engine(10, [noughts, middle, low, high, low]))[1], 3)

    def test_some_engines(self):
        found = set()
        for engine in some_engines(94) + some_engines(95, bases=(2, 3), sizes=(1, 4, 40)):
            before, told = known(engine), half_beats(engine)
            self.assertIs(type(told), tuple)
            self.assertEqual(told, self.wanted(engine))
            self.assertEqual(half_beats(engine), told)
            self.assertEqual(known(engine), before)
            if len(engine.columns()) == 1:
                self.assertEqual(told, (0, 0))
            if len(engine.columns()) == 2:
                self.assertEqual(told[1], 0)
            found.add(told)
        self.assertGreater(len(found), 10)


if __name__ == "__main__":
    unittest.main()
