import unittest

from roofpost import errors

OF_TEXT = ("NoKin", "NoHouse", "NoRoad", "Ring", "NoHold", "NoLetter", "NoStep", "NoText", "NoRow")


class Errors(unittest.TestCase):
    def test_roof_error_stands_right_under_value_error(self):
        self.assertEqual(errors.RoofError.__bases__, (ValueError,))

    def test_each_refusal_stands_right_under_roof_error(self):
        for name in OF_TEXT + ("NoLog",):
            self.assertEqual(getattr(errors, name).__bases__, (errors.RoofError,), name)

    def test_no_two_names_are_one_class(self):
        classes = {getattr(errors, name) for name in OF_TEXT + ("NoLog", "RoofError")}
        self.assertEqual(len(classes), len(OF_TEXT) + 2)

    def test_each_is_made_of_a_text_and_raised(self):
        for name in OF_TEXT:
            made = getattr(errors, name)("some words")
            self.assertEqual(str(made), "some words", name)
            with self.assertRaises(ValueError):
                raise made

    def test_no_log_has_its_number(self):
        for number in (0, 1, 77, 10 ** 59):
            made = errors.NoLog(number)
            self.assertIs(type(made.number), int)
            self.assertEqual(made.number, number)
            with self.assertRaises(errors.RoofError) as seen:
                raise made
            self.assertEqual(seen.exception.number, number)


if __name__ == "__main__":
    unittest.main()
