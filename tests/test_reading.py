import itertools
import unittest

from columnbook.errors import NoSheet
from columnbook.reading import read
from columnbook.sheets import cut_places, shown, widths


def whole(field):
    return ("whole", field)


def cut(beginning):
    return ("cut", beginning)


def texts_up_to(signs, longest):
    for length in range(longest + 1):
        for chosen in itertools.product(signs, repeat=length):
            yield "".join(chosen)


def tables(rows, columns, longest):
    fields = [text for text in texts_up_to(" a", longest) if not text.endswith(" ")]
    for chosen in itertools.product(fields, repeat=rows * columns):
        yield [list(chosen[start:start + columns]) for start in range(0, rows * columns, columns)]


def told_of(table, cap):
    cuts = cut_places(table, cap)
    column_widths = widths(table, cap)
    answer = []
    for row_number, row in enumerate(table):
        told = []
        for column_number, field in enumerate(row):
            if (row_number, column_number) in cuts:
                told.append(cut(field[0:column_widths[column_number] - 1]))
            else:
                told.append(whole(field))
        answer.append(told)
    return answer


class Checks(unittest.TestCase):
    def check(self, lines, answer):
        with self.subTest(lines=lines):
            given = read(lines)
            self.assertEqual(given, answer)
            self.assertIs(type(given), list)
            for row in given:
                self.assertIs(type(row), list)
                for told in row:
                    self.assertIs(type(told), tuple)

    def check_refused(self, *sheets):
        for lines in sheets:
            with self.subTest(lines=lines):
                with self.assertRaises(NoSheet) as caught:
                    read(lines)
                self.assertIs(type(caught.exception), NoSheet)


class Read(Checks):
    def test_no_lines(self):
        self.check([], [])

    def test_whole_cells(self):
        self.check(["ab|c  ", "a |cde"], [[whole("ab"), whole("c")], [whole("a"), whole("cde")]])

    def test_lines_of_one_cell(self):
        self.check(["a"], [[whole("a")]])
        self.check(["abc", "a  ", "   "], [[whole("abc")], [whole("a")], [whole("")]])
        self.check(["abc~"], [[cut("abc")]])
        self.check(["a~"], [[cut("a")]])

    def test_cut_cells(self):
        self.check(["abc~|x   ", "ab  |xyz~"], [[cut("abc"), whole("x")], [whole("ab"), cut("xyz")]])

    def test_whole_cells_of_a_cut_column_may_all_be_short(self):
        self.check(["abc~", "a   ", "    "], [[cut("abc")], [whole("a")], [whole("")]])

    def test_whole_cell_as_wide_as_the_cap(self):
        self.check(["abc~", "abcd"], [[cut("abc")], [whole("abcd")]])
        self.check(["abc~|abcd"], [[cut("abc"), whole("abcd")]])

    def test_cut_column_beside_narrower_ones(self):
        self.check(["x|abc~| |yz", " |ab  |q|y "],
                   [[whole("x"), cut("abc"), whole(""), whole("yz")],
                    [whole(""), whole("ab"), whole("q"), whole("y")]])

    def test_several_cut_columns(self):
        self.check(["a~|b~|c"], [[cut("a"), cut("b"), whole("c")]])

    def test_cells_of_blanks_alone(self):
        self.check([" "], [[whole("")]])
        self.check([" ", " "], [[whole("")], [whole("")]])
        self.check([" | | "], [[whole(""), whole(""), whole("")]])
        self.check(["   ", "abc"], [[whole("")], [whole("abc")]])

    def test_cells_that_begin_with_blanks(self):
        self.check(["  a| b ", "c  |  d"], [[whole("  a"), whole(" b")], [whole("c"), whole("  d")]])
        self.check(["  ~"], [[cut("  ")]])

    def test_cut_behind_a_blank_keeps_the_blank(self):
        self.check(["a ~", "ab "], [[cut("a ")], [whole("ab")]])

    def test_each_sign_of_a_field(self):
        for number in range(33, 127):
            sign = chr(number)
            if sign not in "%|~":
                self.check([sign], [[whole(sign)]])
                self.check([sign + "~"], [[cut(sign)]])

    def test_same_lines_read_twice(self):
        lines = ["abc~|x", "ab  | "]
        self.assertEqual(read(lines), read(lines))


class Refused(Checks):
    def test_unequal_numbers_of_cells(self):
        self.check_refused(["a|b", "a"], ["a", "a|b"], ["a|b", "a|b", "a|b|c"], ["a~|b", "a~"])

    def test_unequal_lengths_in_a_column(self):
        self.check_refused(["a", "ab"], ["ab", "a"], ["a|bc", "a|b"], ["ab|c", "a|cd"], ["abc~", "ab"],
                           ["ab~", "abc~"], ["ab", "ab", "a"])

    def test_empty_cell(self):
        self.check_refused([""], ["", ""], ["|"], ["a|"], ["|a"], ["a||b"], ["a~|"], ["a|", "b|"], ["|a", "|b"])

    def test_mark_anywhere_but_at_the_end(self):
        self.check_refused(["a~b"], ["~a"], ["a~ "], ["~ "], ["a~~"], ["~~"], ["~a~"], ["x|a~b"], ["a~b~"],
                           ["abcd", "a~bc"], ["abc~", "a~bc"])

    def test_mark_is_all_of_a_cell(self):
        self.check_refused(["~"], ["~", "a"], ["a", "~"], ["a|~"], ["~|a"], ["~|~"])

    def test_column_wider_than_its_longest_field(self):
        self.check_refused(["a "], ["  "], ["a ", "  "], ["ab ", "a  "], ["a|b "], ["a |b"], ["a~|b "],
                           ["abc~|x ", "ab  |  "])

    def test_cut_columns_of_different_widths(self):
        self.check_refused(["a~|ab~"], ["ab~|a~"], ["a~ |ab~"], ["a~|x  ", "xx|ab~"], ["x  |a~", "ab~|xx"],
                           ["ab~|ab~|a~"], ["a~|ab~|ab~"],
                           ["xx|xxx", "xx|ab~", "a~|xxx"], ["xxx|xx", "ab~|xx", "xxx|a~"])

    def test_column_wider_than_the_cut_ones(self):
        self.check_refused(["a~|abc"], ["abc|a~"], ["a~|x  ", "xx|abc"], ["a~|x|abc|a~"],
                           ["xx|abc", "a~|abc"], ["abc|xx", "abc|xx", "abc|a~"])

    def test_percent_sign_is_in_no_field(self):
        self.check_refused(["%"], ["a%"], ["a%b"], ["a|%"], ["%~"], ["a", "%"], ["a%~|b"])

    def test_one_wrong_line_anywhere(self):
        for number in range(4):
            lines = ["abc~|x", "ab  |y", "abcd| ", "    |z"]
            lines[number] = "a~  |x"
            self.check_refused(lines)


class AllSmallSheets(Checks):
    # Every short list of lines is read, and told apart by writing every table that could be behind it.
    def sheets_of(self, rows, longest):
        found = {}
        for columns in range(1, longest + 1):
            # The other cells and the bars leave this much, and a cut field needs one sign more.
            longest_field = longest - 2 * (columns - 1) + 1
            if longest_field < 2:
                break
            for table in tables(rows, columns, longest_field):
                for cap in range(2, max(longest, 2) + 2):
                    told = told_of(table, cap)
                    lines = tuple(shown(table, cap))
                    self.assertEqual(found.setdefault(lines, told), told)
        return found

    def check_all(self, rows, longest):
        found = self.sheets_of(rows, longest)
        read_back = 0
        for lines in itertools.product(list(texts_up_to(" a|~", longest)), repeat=rows):
            try:
                given = read(list(lines))
            except NoSheet:
                given = None
            else:
                read_back += 1
            if given != found.get(lines):
                self.fail(f"{lines!r} is read to {given!r}, not to {found.get(lines)!r}")
        self.assertGreater(read_back, 0)

    def test_one_line(self):
        self.check_all(1, 7)

    def test_two_lines(self):
        self.check_all(2, 4)

    def test_three_lines(self):
        self.check_all(3, 2)


class ReadBack(Checks):
    TABLES = (
        [["name", "town", "remark"], ["Ann", "Oslo", "came  early, left late"], ["", "", ""]],
        [["  set in", "x"], ["", "  y z"], ["a b c d e f", ""]],
        [["one"]], [[""]], [["", ""]],
        [["abcdefghij"[0:length] for length in range(11)], ["" for length in range(11)]],
        [["x" * 300, "y" * 299], ["x" * 299, "y"]],
        [["!\"#$&'()*+,-./", "0123456789:;<=>?@", "[\\]^_`{}"]],
    )

    def test_what_was_shown(self):
        for table in self.TABLES:
            for cap in list(range(2, 30)) + [299, 300, 301, 10 ** 30]:
                self.check(shown(table, cap), told_of(table, cap))

    def test_large_cap_gives_every_field_as_it_was(self):
        for table in self.TABLES:
            self.check(shown(table, 1000), [[whole(field) for field in row] for row in table])


class NothingChanged(Checks):
    def test_list_of_lines_stays_as_it_is(self):
        for lines in ([], ["abc~|x", "ab  | "], ["a", "ab"], ["a~b"], [""]):
            before = list(lines)
            try:
                read(lines)
            except NoSheet:
                pass
            self.assertEqual(lines, before)

    def test_answers_are_lists_of_their_own(self):
        lines = []
        given = read(lines)
        self.assertIsNot(given, lines)
        given.append("more")
        self.assertEqual(read(lines), [])


if __name__ == "__main__":
    unittest.main()
