import unittest

from cranktables import errors

OF_A_TEXT = (
    "NoFraction NoBase NoWheels NoColumns NoColumn NoText NoTurns NoRule NoPlaces NoStart NoValues "
    "NoSlip NoChecks NoShown TooMany NoTable NoDegree NoPicked NoWithin NoPrint NoRows NoRow"
).split()
ALL = OF_A_TEXT + ["NotWhole"]


class TestErrors(unittest.TestCase):
    def test_there_are_twenty_three(self):
        self.assertEqual(len(OF_A_TEXT), 22)
        self.assertEqual(len(set(ALL)), 23)

    def test_crank_error_is_a_value_error(self):
        self.assertEqual(errors.CrankError.__bases__, (ValueError,))

    def test_each_stands_straight_under_crank_error(self):
        for name in ALL:
            found = getattr(errors, name)
            self.assertEqual(found.__name__, name)
            self.assertEqual(found.__bases__, (errors.CrankError,), name)
            self.assertTrue(issubclass(found, ValueError), name)

    def test_none_is_under_another(self):
        for name in ALL:
            for other in ALL:
                under = issubclass(getattr(errors, name), getattr(errors, other))
                self.assertEqual(under, name == other, (name, other))

    def test_each_is_made_of_a_text(self):
        for name in OF_A_TEXT:
            found = getattr(errors, name)
            made = found("some words")
            self.assertEqual(str(made), "some words")
            with self.assertRaises(errors.CrankError):
                raise made

    def test_not_whole_has_its_x(self):
        for x in (0, 7, -3, 10 ** 30):
            made = errors.NotWhole("not whole there", x)
            self.assertEqual(made.x, x)
            self.assertEqual(str(made), "not whole there")
        with self.assertRaises(ValueError) as caught:
            raise errors.NotWhole("not whole there", 5)
        self.assertEqual(caught.exception.x, 5)
        self.assertRaises(TypeError, errors.NotWhole, "no x")


if __name__ == "__main__":
    unittest.main()
