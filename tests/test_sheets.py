import copy
import itertools
import unittest

from columnbook.errors import NoCap, NoField
from columnbook.sheets import cut_places, shown, widths

FUNCTIONS = (widths, shown, cut_places)
HUGE = 10 ** 30


def fields_up_to(longest):
    for length in range(longest + 1):
        for signs in itertools.product(" a", repeat=length):
            if signs[-1:] != (" ",):
                yield "".join(signs)


def tables(rows, columns, longest):
    for fields in itertools.product(list(fields_up_to(longest)), repeat=rows * columns):
        yield [list(fields[start:start + columns]) for start in range(0, rows * columns, columns)]


class Checks(unittest.TestCase):
    def check(self, function, table, cap, answer):
        with self.subTest(function=function.__name__, table=table, cap=cap):
            given = function(table, cap)
            self.assertIs(type(given), list)
            self.assertEqual(given, answer)

    def check_refused(self, table, cap, refusal):
        for function in FUNCTIONS:
            with self.subTest(function=function.__name__, table=table, cap=cap):
                with self.assertRaises(refusal) as caught:
                    function(table, cap)
                self.assertIs(type(caught.exception), refusal)


class Widths(Checks):
    def check_widths(self, table, cap, answer):
        self.check(widths, table, cap, answer)

    def test_table_without_rows(self):
        self.check_widths([], 2, [])
        self.check_widths([], HUGE, [])

    def test_empty_fields_alone(self):
        self.check_widths([[""]], 5, [1])
        self.check_widths([[""], [""]], 2, [1])
        self.check_widths([["", "ab", ""], ["", "", ""]], 5, [1, 2, 1])

    def test_longest_below_at_and_above_the_cap(self):
        self.check_widths([["ab"], ["abcd"]], 5, [4])
        self.check_widths([["ab"], ["abcde"]], 5, [5])
        self.check_widths([["ab"], ["abcdef"]], 5, [5])
        self.check_widths([["x" * 1000]], 5, [5])

    def test_several_columns(self):
        self.check_widths([["a", "abc", "", "abcdef"], ["ab", "a", "", "a"]], 4, [2, 3, 1, 4])

    def test_longest_in_any_row(self):
        for rows in itertools.permutations([["abc"], ["a"], [""]]):
            self.check_widths(list(rows), 9, [3])

    def test_blanks_at_the_beginning_count(self):
        self.check_widths([["  a"]], 9, [3])

    def test_cap_of_two(self):
        self.check_widths([["", "a", "ab", "abc"]], 2, [1, 1, 2, 2])

    def test_very_large_cap(self):
        self.check_widths([["", "a", "x" * 500]], HUGE, [1, 1, 500])


class Shown(Checks):
    def check_shown(self, table, cap, answer):
        self.check(shown, table, cap, answer)

    def test_no_row(self):
        self.check_shown([], 2, [])
        self.check_shown([], HUGE, [])

    def test_filled_up_and_just_as_wide(self):
        self.check_shown([["ab", "c"], ["a", "cde"]], 9, ["ab|c  ", "a |cde"])

    def test_cut(self):
        self.check_shown([["abcdef", "x"], ["ab", "xyzuvw"]], 4, ["abc~|x   ", "ab  |xyz~"])
        self.check_shown([["abc"]], 2, ["a~"])
        self.check_shown([["abcd"], ["abcde"]], 4, ["abcd", "abc~"])

    def test_cut_beside_a_narrower_column(self):
        self.check_shown([["abcdef", "x"], ["ab", ""]], 4, ["abc~|x", "ab  | "])

    def test_fields_that_begin_with_blanks(self):
        self.check_shown([["  a", " b"], ["c", "  d"]], 9, ["  a| b ", "c  |  d"])
        self.check_shown([["    a"]], 3, ["  ~"])

    def test_cut_behind_a_blank(self):
        self.check_shown([["a bcd"], ["ab"]], 3, ["a ~", "ab "])

    def test_empty_fields(self):
        self.check_shown([[""]], 5, [" "])
        self.check_shown([["", ""], ["", "ab"]], 5, [" |  ", " |ab"])

    def test_one_column_has_no_bar(self):
        self.check_shown([["ab"], ["c"], [""]], 5, ["ab", "c ", "  "])

    def test_many_columns(self):
        self.check_shown([["a", "b", "c", "d"]], 5, ["a|b|c|d"])

    def test_rows_stay_in_order(self):
        self.check_shown([["c"], ["a"], ["b"], ["a"]], 5, ["c", "a", "b", "a"])

    def test_very_large_cap(self):
        self.check_shown([["abc", ""], ["", "x" * 100]], HUGE, ["abc|" + " " * 100, "   |" + "x" * 100])


class CutPlaces(Checks):
    def check_places(self, table, cap, answer):
        self.check(cut_places, table, cap, answer)
        for place in cut_places(table, cap):
            self.assertIs(type(place), tuple)

    def test_none_cut(self):
        self.check_places([], 2, [])
        self.check_places([["a", ""], ["ab", "b"]], 2, [])
        self.check_places([["x" * 500]], HUGE, [])

    def test_just_as_long_as_the_cap_is_not_cut(self):
        self.check_places([["abcd"]], 4, [])
        self.check_places([["abcde"]], 4, [(0, 0)])
        self.check_places([["ab"], ["abc"]], 2, [(1, 0)])

    def test_order_over_rows_and_columns(self):
        table = [["abc", "a", "abcd"], ["", "ab", ""], ["a", "xyz", "xyzu"], ["pqr", "", ""]]
        self.check_places(table, 2, [(0, 0), (0, 2), (2, 1), (2, 2), (3, 0)])

    def test_row_comes_before_column(self):
        self.check_places([["a", "abc"], ["a", "a"], ["a", "a"]], 2, [(0, 1)])
        self.check_places([["a", "a"], ["a", "a"], ["abc", "a"]], 2, [(2, 0)])


class AllSmallTables(Checks):
    def check_table(self, table, cap):
        columns = [[row[number] for row in table] for number in range(len(table[0]))]
        expected = [min(max([1] + [len(field) for field in column]), cap) for column in columns]
        self.assertEqual(widths(table, cap), expected)
        lines, places = [], []
        for row_number, row in enumerate(table):
            cells = []
            for column_number, field in enumerate(row):
                width = expected[column_number]
                if len(field) > width:
                    places.append((row_number, column_number))
                    cells.append(field[0:width - 1] + "~")
                else:
                    cells.append(field + " " * (width - len(field)))
            lines.append("|".join(cells))
        self.assertEqual(shown(table, cap), lines)
        self.assertEqual(cut_places(table, cap), places)

    def test_against_the_points_written_out(self):
        for rows, columns, longest in ((1, 1, 6), (1, 2, 4), (2, 1, 4), (2, 2, 3), (3, 1, 3), (1, 3, 3)):
            for table in tables(rows, columns, longest):
                for cap in range(2, longest + 2):
                    self.check_table(table, cap)


class Refusals(Checks):
    WRONG_FIELDS = ("|", "a|b", "a|", "|a", "~", "a~b", "a~", "~a", " ", "a ", "   ", "a%", "%")

    def test_caps_of_less_than_two(self):
        for cap in (1, 0, -1, -2, -HUGE, -10 ** 5000):
            for table in ([], [["a"]], [["abc", ""], ["", "abc"]]):
                with self.subTest(digits=cap.bit_length()):
                    for function in FUNCTIONS:
                        with self.assertRaises(NoCap):
                            function(table, cap)

    def test_cap_of_two_is_not_refused(self):
        for function in FUNCTIONS:
            function([["a"]], 2)
            function([], 2)

    def test_wrong_fields_at_each_place(self):
        for field in self.WRONG_FIELDS:
            for row, column in itertools.product(range(3), range(3)):
                table = [["a", "", "abc"], [" b", "b c", ""], ["c", "d", "e"]]
                table[row][column] = field
                for cap in (2, 9, HUGE):
                    self.check_refused(table, cap, NoField)

    def test_wrong_sign_behind_the_cut(self):
        self.check_refused([["abcdef|"]], 3, NoField)
        self.check_refused([["abcdef~"]], 3, NoField)
        self.check_refused([["abcdef "]], 3, NoField)

    def test_both_at_once(self):
        for field in self.WRONG_FIELDS:
            for cap in (1, 0, -7):
                self.check_refused([["a", field]], cap, NoCap)
                self.check_refused([[field], ["a"]], cap, NoCap)


class NothingChanged(Checks):
    def test_table_and_rows_stay_as_they_are(self):
        for table in ([], [["abcdef", "a"], ["", " b"]], [["a"], ["a|"]], [["a "]]):
            for cap in (1, 2, 4, HUGE):
                for function in FUNCTIONS:
                    before = copy.deepcopy(table)
                    rows = list(table)
                    try:
                        function(table, cap)
                    except (NoCap, NoField):
                        pass
                    self.assertEqual(table, before)
                    self.assertTrue(all(row is old for row, old in zip(table, rows)))

    def test_answers_are_lists_of_their_own(self):
        table = [["abcdef", "a"], ["", " b"]]
        for function in FUNCTIONS:
            first = function(table, 3)
            expected = list(first)
            first.append("more")
            self.assertEqual(function(table, 3), expected)

    def test_one_row_object_may_stand_twice(self):
        row = ["abc", "a"]
        self.check(shown, [row, row], 2, ["a~|a", "a~|a"])
        self.assertEqual(row, ["abc", "a"])


if __name__ == "__main__":
    unittest.main()
