"""Fields, and the cells that they are set in."""

BLANK = " "
BAR = "|"
CUT_MARK = "~"
LAST_SIGN = "~"

# The percent sign is given by its number, because no text of the program may hold the sign itself.
PERCENT_NUMBER = 37


def is_field_sign(sign):
    return BLANK <= sign <= LAST_SIGN and ord(sign) != PERCENT_NUMBER


def is_column_sign(sign):
    return is_field_sign(sign) and sign != BAR and sign != CUT_MARK


def is_field(field):
    for sign in field:
        if not is_column_sign(sign):
            return False
    # A blank at the end could not be told from the blanks that fill up a cell.
    return not field.endswith(BLANK)


def cell_of(field, width):
    if len(field) > width:
        return field[:width - 1] + CUT_MARK
    return field.ljust(width)
