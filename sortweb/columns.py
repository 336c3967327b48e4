"""All rows of noughts and ones of some lines at once.

Row number r has bit k of r on line k. A column is a whole number for each line: its bit r is what
row number r has there. So one step along a column does what it does to each of the rows.
"""


def all_columns(lines):
    """The columns of all rows of noughts and ones, each row once."""
    columns = []
    rows = 1
    for _ in range(lines):
        # With a line more there are twice as many rows: those so far with a nought on it, then with a one.
        columns = [column | (column << rows) for column in columns]
        columns.append(((1 << rows) - 1) << rows)
        rows = 2 * rows
    return columns


def greater(columns, a, b):
    """The rows, a bit for each, that have a one on line a and a nought on line b."""
    return columns[a] & ~columns[b]


def behind(columns, comparer):
    """The columns behind the comparer, a list of its own."""
    a, b = comparer
    out = list(columns)
    out[a] = columns[a] & columns[b]
    out[b] = columns[a] | columns[b]
    return out


def columns_out(lines, comparers):
    """What all rows of noughts and ones are behind the comparers."""
    columns = all_columns(lines)
    for comparer in comparers:
        columns = behind(columns, comparer)
    return columns


def first_row(lines, rows):
    """The first one of the rows that have a bit, as it goes in: a list; None where none has."""
    if rows == 0:
        return None
    return row_of(lines, (rows & -rows).bit_length() - 1)


def row_of(lines, number):
    """The row of that number, a list of its own."""
    return [(number >> line) & 1 for line in range(lines)]
