"""What a web does: whether it sorts, which comparers are needless, whether two webs do the same.

Rows of noughts and ones are enough to tell each of these, and all of them are asked at once.
"""

from sortweb.columns import all_columns, behind, columns_out, first_row, greater
from sortweb.errors import BadPlace
from sortweb.webs import is_whole, need_web


def unsorted(lines, comparers):
    """A row of noughts and ones that comes out in no order, None where the web sorts."""
    need_web(lines, comparers)
    columns = columns_out(lines, comparers)
    rows = 0
    for line in range(lines - 1):
        rows = rows | greater(columns, line, line + 1)
    return first_row(lines, rows)


def stirring(lines, comparers, place):
    """A row of noughts and ones that is exchanged at the comparer of the place, None where it is needless.

    BadPlace of what is no place of a comparer of the web.
    """
    need_web(lines, comparers)
    _need_place(comparers, place)
    a, b = comparers[place]
    return first_row(lines, greater(columns_out(lines, comparers[:place]), a, b))


def needless(lines, comparers):
    """The rising places of the comparers at which no row is exchanged."""
    need_web(lines, comparers)
    places = []
    columns = all_columns(lines)
    for place, comparer in enumerate(comparers):
        a, b = comparer
        if greater(columns, a, b) == 0:
            places.append(place)
        columns = behind(columns, comparer)
    return places


def pruned(lines, comparers):
    """The comparers that are not needless, in their order."""
    places = needless(lines, comparers)
    return [comparer for place, comparer in enumerate(comparers) if place not in places]


def differing(lines, one, other):
    """A row of noughts and ones that comes out otherwise of one than of other, None where they do the same.

    BadWeb of one ahead of that of other.
    """
    need_web(lines, one)
    need_web(lines, other)
    rows = 0
    for column, column_of_other in zip(columns_out(lines, one), columns_out(lines, other)):
        rows = rows | (column ^ column_of_other)
    return first_row(lines, rows)


def _need_place(comparers, place):
    if not is_whole(place) or not 0 <= place < len(comparers):
        raise BadPlace("a place is that of a comparer of the web, from 0 on")
