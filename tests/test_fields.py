import itertools
import unittest

from columnbook.fields import cell_of, is_field

ALL_SIGNS = [chr(number) for number in range(32, 127)]


def texts_up_to(signs, longest):
    for length in range(longest + 1):
        for chosen in itertools.product(signs, repeat=length):
            yield "".join(chosen)


class IsField(unittest.TestCase):
    def check(self, texts, answer):
        for text in texts:
            with self.subTest(text=text):
                self.assertIs(is_field(text), answer)

    def test_ordinary_fields(self):
        self.check(["a", "Z", "0", "name", "A-1", "x" * 1000, "!", "}", "{", "a.b,c;d"], True)

    def test_empty_text(self):
        self.check([""], True)

    def test_blanks_at_the_beginning_or_inside(self):
        self.check([" a", "   a", "a b", "a   b", "  a  b", " a b c"], True)

    def test_blank_at_the_end_or_alone(self):
        self.check([" ", "   ", "a ", "a   ", " a ", "a b "], False)

    def test_bar(self):
        self.check(["|", "||", "|a", "a|b", "a|", " |", "| "], False)

    def test_cut_mark(self):
        self.check(["~", "~~", "~a", "a~b", "a~", " ~", "~ ", "|~"], False)

    def test_percent_sign_is_in_no_field(self):
        self.check(["%", "%%", "%a", "a%b", "a%", " %"], False)

    def test_each_sign_alone(self):
        for sign in ALL_SIGNS:
            self.check([sign], sign not in " %|~")

    def test_each_sign_in_the_middle(self):
        for sign in ALL_SIGNS:
            self.check(["a" + sign + "b"], sign not in "%|~")

    def test_signs_beyond_the_bounds(self):
        self.check(["\n", "a\nb", "a\tb", "\x1f", "\x7f", "a\u00e9"], False)

    def test_all_short_texts(self):
        for text in texts_up_to(" a|~%}", 4):
            stands = not any(sign in text for sign in "|~%") and text[-1:] != " "
            self.check([text], stands)


class CellOf(unittest.TestCase):
    def check(self, field, width, cell):
        with self.subTest(field=field, width=width):
            self.assertEqual(cell_of(field, width), cell)

    def test_shorter_is_filled_up_behind(self):
        self.check("ab", 3, "ab ")
        self.check("ab", 7, "ab     ")
        self.check("a", 2, "a ")

    def test_just_as_long_stays_as_it_is(self):
        self.check("ab", 2, "ab")
        self.check("name", 4, "name")

    def test_one_sign_longer_is_cut(self):
        self.check("names", 4, "nam~")
        self.check("abc", 2, "a~")

    def test_much_longer_is_cut(self):
        self.check("abcdefghijklmnop", 5, "abcd~")
        self.check("x" * 1000, 10, "xxxxxxxxx~")

    def test_empty_field(self):
        self.check("", 1, " ")
        self.check("", 2, "  ")
        self.check("", 5, "     ")

    def test_width_one(self):
        self.check("", 1, " ")
        self.check("a", 1, "a")

    def test_width_two_with_longer_fields(self):
        self.check("abc", 2, "a~")
        self.check("abcdefgh", 2, "a~")

    def test_field_that_begins_with_blanks(self):
        self.check("  a", 5, "  a  ")
        self.check("  a", 3, "  a")
        self.check("  ab", 3, "  ~")
        self.check("   a", 2, " ~")

    def test_cut_behind_a_blank_keeps_the_blank(self):
        self.check("a bcd", 3, "a ~")

    def test_all_short_fields(self):
        for field in texts_up_to(" ab", 5):
            if field.endswith(" "):
                continue
            for width in range(1 if len(field) <= 1 else 2, 8):
                cell = cell_of(field, width)
                self.assertEqual(len(cell), width)
                if len(field) <= width:
                    self.assertEqual(cell, field + " " * (width - len(field)))
                else:
                    self.assertEqual(cell, field[0:width - 1] + "~")


class NothingKept(unittest.TestCase):
    def test_same_answer_whenever_asked(self):
        first = [(is_field(text), cell_of("abc", 2), cell_of("", 3)) for text in ("a", "a|", " ")]
        again = [(is_field(text), cell_of("abc", 2), cell_of("", 3)) for text in ("a", "a|", " ")]
        self.assertEqual(first, again)


if __name__ == "__main__":
    unittest.main()
