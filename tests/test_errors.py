import unittest

from columnbook.errors import NoCap, NoField, NoSheet, SheetError

REFUSALS = (NoCap, NoField, NoSheet)


class ErrorClasses(unittest.TestCase):
    def test_sheet_error_stands_right_under_value_error(self):
        self.assertEqual(SheetError.__bases__, (ValueError,))

    def test_each_refusal_stands_right_under_sheet_error(self):
        for refusal in REFUSALS:
            with self.subTest(refusal=refusal.__name__):
                self.assertEqual(refusal.__bases__, (SheetError,))

    def test_names_are_those_of_the_interface(self):
        names = [refusal.__name__ for refusal in (SheetError,) + REFUSALS]
        self.assertEqual(names, ["SheetError", "NoCap", "NoField", "NoSheet"])

    def test_except_sheet_error_takes_each(self):
        for refusal in REFUSALS:
            with self.subTest(refusal=refusal.__name__):
                try:
                    raise refusal("some words")
                except SheetError as error:
                    self.assertIs(type(error), refusal)

    def test_no_refusal_is_taken_as_another(self):
        for refusal in REFUSALS:
            for other in REFUSALS:
                with self.subTest(refusal=refusal.__name__, other=other.__name__):
                    self.assertEqual(issubclass(refusal, other), refusal is other)

    def test_sheet_error_can_be_raised_itself_with_or_without_words(self):
        with self.assertRaises(ValueError):
            raise SheetError("some words")
        with self.assertRaises(SheetError):
            raise SheetError()


if __name__ == "__main__":
    unittest.main()
