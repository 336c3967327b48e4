"""A bench: comparers are put upon it one by one, and the last one is taken back."""

from sortweb.columns import row_of
from sortweb.errors import BadWeb, NothingPut
from sortweb.webs import MOST_COMPARERS, is_comparer, need_lines


class Bench:
    """Comparers that are put one by one, and the rows of noughts and ones that can come out of them."""

    def __init__(self, lines):
        need_lines(lines)
        self._lines = lines
        self._comparers = []
        # The rising numbers of the rows that come to each comparer and, at last, of those that come out:
        # so what came out before is there when a comparer is taken back.
        self._rows = [list(range(1 << lines))]

    def put(self, comparer):
        """True where some row that comes to the comparer is exchanged by it, else False.

        BadWeb of what is no comparer of the lines, or a sixty-first one.
        """
        if len(self._comparers) >= MOST_COMPARERS or not is_comparer(self._lines, comparer):
            raise BadWeb(None)
        a, b = comparer
        ahead = self._rows[-1]
        out = sorted({_behind(number, a, b) for number in ahead})
        self._comparers.append((a, b))
        self._rows.append(out)
        # What comes out of a comparer isn't exchanged by it again, so the rows stay the same just where none was.
        return out != ahead

    def take_back(self):
        """The last comparer that was put, which is taken off; NothingPut."""
        if self._comparers == []:
            raise NothingPut("no comparer is put that could be taken back")
        self._rows.pop()
        return self._comparers.pop()

    def comparers(self):
        """The comparers that are put, in their order."""
        return list(self._comparers)

    def many(self):
        """How many unlike rows of noughts and ones can come out."""
        return len(self._rows[-1])

    def wild(self):
        """One of the rows that can come out and is in no order, None where there is none."""
        for number in self._rows[-1]:
            row = row_of(self._lines, number)
            if row != sorted(row):
                return row
        return None


def _behind(number, a, b):
    """The number of the row that comes out of the comparer (a, b) where that row goes in."""
    if (number >> a) & 1 > (number >> b) & 1:
        return number ^ (1 << a) ^ (1 << b)
    return number
