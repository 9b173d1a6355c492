import unittest

from touchpin.errors import GoesRound, Missed, NoRow, NoText, NoTurned, PinError, TooMany

OF_A_TEXT = [TooMany, NoTurned, NoRow]
WITH_FIELD = [(GoesRound, "place"), (Missed, "piece"), (NoText, "number")]
ALL = OF_A_TEXT + [kind for kind, _ in WITH_FIELD]
FIELDS = [0, 7, -3, 10 ** 60, 10 ** 5000, True, None, "", "ab", (1, 2), [1, [2]]]


class Kinds(unittest.TestCase):
    def test_the_first_of_all_is_a_value_error(self):
        self.assertEqual(PinError.__bases__, (ValueError,))
        self.assertEqual(str(PinError("why")), "why")

    def test_each_is_right_under_it(self):
        for kind in ALL:
            self.assertEqual(kind.__bases__, (PinError,), kind)
            self.assertTrue(issubclass(kind, ValueError), kind)

    def test_none_is_under_another_one(self):
        for kind in ALL:
            for other in ALL:
                self.assertEqual(issubclass(kind, other), kind is other, (kind, other))


class Made(unittest.TestCase):
    def test_of_a_text(self):
        for kind in OF_A_TEXT:
            made = kind("why so")
            self.assertIsInstance(made, PinError)
            self.assertEqual(str(made), "why so")

    def test_by_place_and_by_name_whatever_the_field_is(self):
        for kind, name in WITH_FIELD:
            for field in FIELDS:
                for made in (kind(field), kind(**{name: field})):
                    self.assertIs(getattr(made, name), field)
                    self.assertIsInstance(made, PinError)
                    self.assertIsInstance(made, ValueError)
                    self.assertTrue(str(made))

    def test_a_field_is_needed(self):
        for kind, _ in WITH_FIELD:
            with self.assertRaises(TypeError):
                kind()

    def test_raised_and_caught(self):
        for kind, name in WITH_FIELD:
            with self.assertRaises(PinError) as caught:
                raise kind(5)
            self.assertEqual(getattr(caught.exception, name), 5)
        for kind in OF_A_TEXT:
            with self.assertRaises(ValueError):
                raise kind("x")


if __name__ == "__main__":
    unittest.main()
