import itertools
import unittest
from fractions import Fraction
from math import comb

from cranktables.errors import NoDegree, NoValues
from cranktables.proofreading import is_right, loud, proofread
from tests.makers import any_rule, plain_worth
from tests.test_rounding import plain_rounded
from tests.things import NO_WHOLES, Grumpy, Refusing, dice, long_number

NO_PROOF_DEGREES = NO_WHOLES + [-1, -2, -5, 5, 6, 24, 10 ** 59, -10 ** 59, (1, 1)]


def no_values(degree):
    """What is no list of values of the degree."""
    wrong = [True, False, None, "1", "", 1.0, 2.5, (1, 1), (1,), [1], [], Grumpy()]
    made = [thing for thing in NO_WHOLES if thing.__class__ is not list] + [
        0, 5, [], (0,) * (degree + 3), (1,) * 24, tuple(range(9)), range(degree + 3), "123456789", [[0] * (degree + 3)],
        {k: k for k in range(degree + 3)}, set(range(degree + 3)), [0] * 25, [0] * 26, [1] * 100, list(range(25)),
    ]
    made += [[0] * many for many in range(degree + 3)]
    for thing in wrong:
        made += [[thing] + [0] * (degree + 2), [0] * (degree + 2) + [thing], [1] * 12 + [thing] + [1] * 11]
    return made


def through(places, values, x):
    """What the rule that goes through these values at these places is worth at x."""
    total = Fraction(0)
    for place, value in zip(places, values):
        part = Fraction(value)
        for other in places:
            if other != place:
                part *= Fraction(x - other, place - other)
        total += part
    return total


def follow_one_rule(places, values, degree):
    """Whether some rule of the degree is worth the values at these places."""
    some, known = places[:degree + 1], values[:degree + 1]
    return all(through(some, known, place) == value for place, value in zip(places, values))


def plain_proofread(values, degree):
    """Each place left out in turn: whether the others follow a rule, and what that is worth there."""
    places = list(range(len(values)))
    if follow_one_rule(places, values, degree):
        return ("right",)
    found = []
    for place in places:
        others = [other for other in places if other != place]
        rest = [values[other] for other in others]
        if follow_one_rule(others, rest, degree):
            found.append((place, through(others[:degree + 1], rest[:degree + 1], place)))
    assert len(found) <= 1
    if found and found[0][1].denominator == 1:
        return ("one", found[0][0], found[0][1].numerator)
    return ("more",)


def plain_marks(values, degree):
    """The differences of order degree and 1, by what stands ahead of each value in them."""
    order = degree + 1
    return [
        sum((-1) ** (order - j) * comb(order, j) * values[k + j] for j in range(order + 1))
        for k in range(len(values) - order)
    ]


def values_with(marks, degree, heads):
    """The values whose first differences are the heads and whose differences of order degree and 1 are the marks."""
    row = list(marks)
    for head in reversed(heads):
        total, above = head, [head]
        for step in row:
            total += step
            above.append(total)
        row = above
    assert len(row) == len(marks) + degree + 1
    return row


def sizes_of(degree):
    return (degree + 3, degree + 4, 11, 24)


def right_values(source, degree, many, most_figures=3):
    """Worths of a rule of at most one fraction more than the degree, all of them whole."""
    heads = [long_number(source, most_figures) for order in range(degree + 1)]
    return values_with([0] * (many - degree - 1), degree, heads)


class Proofs(unittest.TestCase, Refusing):
    def check(self, values, degree):
        kept = list(values)
        wanted = plain_proofread(values, degree)
        told = proofread(values, degree)
        self.assertIs(type(told), tuple)
        self.assertEqual(told, wanted)
        self.assertEqual(proofread(values, degree), wanted)
        self.assertIs(is_right(values, degree), wanted == ("right",))
        self.assertEqual(values, kept)
        if told[0] == "one":
            name, place, value = told
            self.assertIs(type(value), int)
            self.assertIs(is_right(values[:place] + [value] + values[place + 1:], degree), True)
        return told


class TestProofread(Proofs):
    def test_plain_ones(self):
        self.assertEqual(proofread([0, 1, 4, 9, 16], 2), ("right",))
        self.assertEqual(proofread([0, 1, 5, 9, 16], 2), ("one", 2, 4))
        self.assertEqual(proofread([1, 1, 4, 9, 16], 2), ("one", 0, 0))
        self.assertEqual(proofread([0, 1, 4, 9, 15], 2), ("one", 4, 16))
        self.assertEqual(proofread([0, 1, 5, 9, 15], 2), ("more",))
        self.assertEqual(proofread([7, 7, 7], 0), ("right",))
        self.assertEqual(proofread([7, 8, 7], 0), ("one", 1, 7))
        self.assertEqual(proofread([7, 8, 9], 0), ("more",))
        self.assertEqual(proofread([0, 2, 4, 6], 1), ("right",))
        self.assertEqual(proofread([0, 2, 4, 7], 1), ("one", 3, 6))
        self.assertIs(is_right([0, 1, 4, 9, 16], 2), True)
        self.assertIs(is_right([0, 1, 4, 9, 17], 2), False)
        self.assertIs(is_right([0, 1, 4, 9], 1), False)

    def test_right_ones(self):
        source = dice(231)
        for degree in range(5):
            for many in sizes_of(degree):
                for most_figures in (1, 3, 60):
                    values = right_values(source, degree, many, most_figures)
                    self.assertEqual(self.check(values, degree), ("right",))

    def test_rules_of_fewer_fractions(self):
        source = dice(232)
        for degree in range(5):
            for less in range(degree + 1):
                for many in sizes_of(degree):
                    self.assertEqual(self.check(right_values(source, less, many), degree), ("right",))
                    if degree < 4 and many >= degree + 4:
                        # One degree more than is asked for is not right.
                        heads = [3, 1, 4, 1, 5][:degree + 1] + [source.choice((1, -2))]
                        values = values_with([0] * (many - degree - 2), degree + 1, heads)
                        self.assertNotEqual(self.check(values, degree), ("right",))

    def test_rules_with_fractions(self):
        # x times x less 1, divided by 2, is whole at all x, and C(x, 4) is.
        self.assertEqual(proofread([comb(x, 2) for x in range(24)], 2), ("right",))
        self.assertEqual(proofread([comb(x, 4) for x in range(24)], 4), ("right",))
        self.assertEqual(proofread([comb(x, 4) for x in range(24)], 3), ("more",))

    def test_one_wrong_at_each_place(self):
        source = dice(233)
        for degree in range(5):
            for many in sizes_of(degree):
                for place in range(many):
                    for by in (1, -1, long_number(source) or 7):
                        values = right_values(source, degree, many)
                        right = values[place]
                        values[place] += by
                        self.assertEqual(self.check(values, degree), ("one", place, right))

    def test_two_wrong_ones(self):
        source = dice(234)
        for degree in range(5):
            for many in (degree + 3, degree + 4, degree + 5, 24):
                for one, other in itertools.combinations(range(many), 2):
                    if many < 24 or source.randrange(9) == 0:
                        values = right_values(source, degree, many)
                        values[one] += source.choice((1, -1, 2, 50))
                        values[other] += source.choice((1, -1, 3, -50))
                        told = self.check(values, degree)
                        # With the fewest values another single one may do as well as these two.
                        if many > degree + 3:
                            self.assertEqual(told, ("more",))

    def test_three_wrong_ones_and_any_numbers(self):
        source = dice(235)
        found = set()
        for degree in range(5):
            for many in (degree + 3, degree + 4, 24):
                for again in range(25):
                    values = right_values(source, degree, many)
                    for wrong in range(3):
                        values[source.randrange(many)] += source.randint(-2, 2)
                    found.add(self.check(values, degree)[0])
                    found.add(self.check([source.randint(-3, 3) for value in range(many)], degree)[0])
                    found.add(self.check([long_number(source) for value in range(many)], degree)[0])
        self.assertEqual(found, {"right", "one", "more"})

    def test_all_small_lists(self):
        found = set()
        for degree, many, choice in (
            (0, 3, (-1, 0, 1, 2)), (0, 4, (0, 1, 3)), (1, 4, (-1, 0, 1, 2)), (1, 5, (0, 1, 2)), (2, 5, (0, 1, 2, 3)),
            (2, 6, (0, 1, 2)), (3, 6, (0, 1, 2)), (4, 7, (0, 1)),
        ):
            for values in itertools.product(choice, repeat=many):
                found.add(self.check(list(values), degree)[0])
        self.assertEqual(found, {"right", "one", "more"})

    def test_one_value_would_do_but_is_not_whole(self):
        # A value wrong by a part of 1 leaves whole differences where what stands ahead of it in them has a common divisor.
        source = dice(236)
        made = 0
        for degree, many, place, part in (
            (2, 5, 2, 3), (3, 6, 2, 2), (3, 6, 3, 2), (4, 7, 2, 5), (4, 7, 3, 10), (4, 7, 4, 5), (4, 8, 3, 5), (4, 8, 4, 5),
        ):
            ones = plain_marks([1 if k == place else 0 for k in range(many)], degree)
            for top in range(-2 * part, 2 * part + 1):
                marks = [one * Fraction(top, part) for one in ones]
                self.assertTrue(all(mark.denominator == 1 for mark in marks), (degree, many))
                heads = [long_number(source, 3) for order in range(degree + 1)]
                values = values_with([mark.numerator for mark in marks], degree, heads)
                told = self.check(values, degree)
                if top % part:
                    self.assertEqual(told, ("more",))
                    made += 1
                elif top:
                    self.assertEqual(told, ("one", place, values[place] - top // part))
        self.assertGreater(made, 40)

    def test_what_was_told_is_handed_in_again(self):
        values = [10 ** 500 * x * x + 7 for x in range(24)]
        values[5] += 10 ** 450
        told = proofread(values, 2)
        self.assertEqual(told, ("one", 5, 10 ** 500 * 25 + 7))
        values[5] = told[2]
        self.assertEqual(proofread(values, 2), ("right",))

    def test_refusals(self):
        for function in (is_right, proofread, loud):
            for degree in range(5):
                for many in (degree + 3, 24):
                    wrong = [(NoDegree, 1, NO_PROOF_DEGREES), (NoValues, 0, no_values(degree))]
                    self.refused_in_order(function, [[1] * many, degree], wrong)

    def test_lists_stay_as_they_were(self):
        for function in (is_right, proofread, loud):
            values = [1, 2, 3, True]
            self.refused(NoValues, function, values, 1)
            self.assertEqual(values, [1, 2, 3, True])


class TestLoud(Proofs):
    def check_loud(self, values, degree):
        kept = list(values)
        wanted = [k for k, mark in enumerate(plain_marks(values, degree)) if abs(mark) > 2 ** degree]
        told = loud(values, degree)
        self.assertIs(type(told), list)
        self.assertEqual(told, wanted)
        told.append("more")
        self.assertEqual(loud(values, degree), wanted)
        self.assertEqual(values, kept)
        return wanted

    def test_plain_ones(self):
        self.assertEqual(loud([0, 1, 2, 9, 4, 5], 1), [1, 2, 3])
        self.assertEqual(loud([0, 1, 4, 9, 16], 2), [])
        self.assertEqual(loud([0, 1, 3, 9, 16], 2), [])
        self.assertEqual(loud([0, 1, 2, 9, 16], 2), [0, 1])
        self.assertEqual(loud([0, 2, 0], 0), [0, 1])
        self.assertEqual(loud([0, 1, 0], 0), [])
        self.assertEqual(loud([5, 5, 9], 0), [1])

    def test_rounded_worths_are_not_loud(self):
        source = dice(241)
        for degree in range(5):
            for size in range(1, degree + 2):
                for many in sizes_of(degree):
                    for again in range(6):
                        rule = any_rule(source, size, 4)
                        values = [plain_rounded(plain_worth(rule, x)) for x in range(many)]
                        self.assertEqual(self.check_loud(values, degree), [])

    def test_one_wrong_value(self):
        source = dice(242)
        for degree in range(5):
            for many in sizes_of(degree):
                for place in range(many):
                    rule = any_rule(source, source.randint(1, degree + 1), 4)
                    values = [plain_rounded(plain_worth(rule, x)) for x in range(many)]
                    values[place] += source.choice((1, -1)) * (2 * 2 ** degree + source.choice((1, 1, 2, 10 ** 30)))
                    having = [k for k in range(many - degree - 1) if k <= place <= k + degree + 1]
                    self.assertEqual(self.check_loud(values, degree), having)

    def test_just_two_to_the_power_of_the_degree(self):
        source = dice(243)
        for degree in range(5):
            for many in sizes_of(degree):
                size = many - degree - 1
                for place in range(size):
                    for mark in (2 ** degree, -2 ** degree, 2 ** degree + 1, -2 ** degree - 1, 2 ** degree - 1, 1 - 2 ** degree):
                        marks = [source.choice((0, 2 ** degree, -2 ** degree, 1, -1)) for k in range(size)]
                        marks[place] = mark
                        heads = [long_number(source, 4) for order in range(degree + 1)]
                        values = values_with(marks, degree, heads)
                        self.assertEqual(self.check_loud(values, degree), [place] if abs(mark) > 2 ** degree else [])

    def test_any_numbers(self):
        source = dice(244)
        for degree in range(5):
            for many in sizes_of(degree):
                for most in (1, 2, 5, 40, 10 ** 59):
                    self.check_loud([source.randint(-most, most) for value in range(many)], degree)


if __name__ == "__main__":
    unittest.main()
