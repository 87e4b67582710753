"""Sheets: tables written in columns that are never wider than a cap."""

from columnbook.errors import NoCap, NoField
from columnbook.fields import BAR, cell_of, is_field

LEAST_CAP = 2
LEAST_WIDTH = 1


def refuse_wrong(table, cap):
    # The cap comes first: where both are wrong, it is the cap that is told.
    if cap < LEAST_CAP:
        # The words leave the cap out: Python writes no number of very many digits.
        raise NoCap("the cap is less than two")
    for row in table:
        for field in row:
            if not is_field(field):
                raise NoField(f"{field!r} can't stand in a column")


def width_of(column, cap):
    longest = max([len(field) for field in column])
    return min(max(longest, LEAST_WIDTH), cap)


def columns_of(rows):
    if not rows:
        return []
    columns = []
    for number in range(len(rows[0])):
        columns.append([row[number] for row in rows])
    return columns


def widths(table, cap):
    refuse_wrong(table, cap)
    return [width_of(column, cap) for column in columns_of(table)]


def line_of(row, column_widths):
    return BAR.join([cell_of(field, width) for field, width in zip(row, column_widths)])


def shown(table, cap):
    column_widths = widths(table, cap)
    return [line_of(row, column_widths) for row in table]


def cut_places(table, cap):
    refuse_wrong(table, cap)
    places = []
    for row_number, row in enumerate(table):
        for column_number, field in enumerate(row):
            # A column is narrower than one of its fields only where the cap makes it so.
            if len(field) > cap:
                places.append((row_number, column_number))
    return places
