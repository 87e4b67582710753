"""Reading: the lines of a sheet, read back to what their cells tell."""

from columnbook.errors import NoSheet
from columnbook.fields import BAR, BLANK, CUT_MARK, is_column_sign
from columnbook.sheets import LEAST_WIDTH, columns_of

WHOLE = "whole"
CUT = "cut"


def is_cut(cell):
    return cell.endswith(CUT_MARK)


def told_by(cell):
    if is_cut(cell):
        return (CUT, cell[:-1])
    return (WHOLE, cell.rstrip(BLANK))


def told_by_row(row):
    return [told_by(cell) for cell in row]


def is_cell(cell):
    signs = cell[:-1] if is_cut(cell) else cell
    # No cell is empty, and as no cap is less than two, a mark always has a sign before it.
    return signs != "" and all([is_column_sign(sign) for sign in signs])


def has_cells_alone(row):
    return all([is_cell(cell) for cell in row])


def has_cut(column):
    return any([is_cut(cell) for cell in column])


def width_of_cells(column):
    return len(column[0])


def is_column(column):
    width = width_of_cells(column)
    if any([len(cell) != width for cell in column]):
        return False
    # A cut cell ends with its mark, so it is as long as its column, as a longest field is.
    longest = max([len(cell.rstrip(BLANK)) for cell in column])
    return width == max(longest, LEAST_WIDTH)


def share_a_cap(columns):
    cut_widths = [width_of_cells(column) for column in columns if has_cut(column)]
    if not cut_widths:
        return True
    # A column with a cut is just as wide as the cap, so none is wider than the narrowest of them.
    return max([width_of_cells(column) for column in columns]) == min(cut_widths)


def is_sheet(rows):
    if not all([has_cells_alone(row) for row in rows]):
        return False
    if any([len(row) != len(rows[0]) for row in rows]):
        return False
    columns = columns_of(rows)
    return all([is_column(column) for column in columns]) and share_a_cap(columns)


def read(lines):
    rows = [line.split(BAR) for line in lines]
    if not is_sheet(rows):
        raise NoSheet("no table is written as these lines")
    return [told_by_row(row) for row in rows]
