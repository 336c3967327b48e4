"""What a web is and what a row is, and the refusals of what is none."""

from sortweb.errors import BadLines, BadRow, BadWeb

MOST_LINES = 10
MOST_COMPARERS = 60


def is_whole(value):
    """True where value is a whole number."""
    # isinstance would take True and False, too, and objects that only claim to be numbers.
    return type(value) is int


def is_comparer(lines, value):
    """True where value is a comparer of that many lines."""
    if type(value) is not tuple or len(value) != 2:
        return False
    a, b = value
    return _is_line(lines, a) and _is_line(lines, b) and a != b


def _is_line(lines, value):
    return is_whole(value) and 0 <= value < lines


def need_lines(lines):
    """None; BadLines unless lines is a whole number from 1 to 10."""
    if not is_whole(lines) or not 1 <= lines <= MOST_LINES:
        raise BadLines(f"lines are a whole number from 1 to {MOST_LINES}")


def need_web(lines, comparers):
    """None; BadLines and BadWeb of what is no web."""
    need_lines(lines)
    if type(comparers) is not list or len(comparers) > MOST_COMPARERS:
        raise BadWeb(None)
    for place, comparer in enumerate(comparers):
        if not is_comparer(lines, comparer):
            raise BadWeb(place)


def need_row(lines, row):
    """None; BadRow of what is no list of whole numbers, one for each line."""
    # The bounds of lines are no matter here: no row fits what is no whole number at all.
    if not is_whole(lines) or type(row) is not list or len(row) != lines:
        raise BadRow("a row is a list of one number for each line")
    if not all([is_whole(number) for number in row]):
        raise BadRow("the numbers of a row are whole numbers")
