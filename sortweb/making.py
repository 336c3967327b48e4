"""Webs that are made: one that merges, one that sorts, and two webs beside one another."""

from sortweb.errors import BadLines, BadWeb
from sortweb.webs import MOST_COMPARERS, MOST_LINES, is_whole, need_lines, need_web


def merging(many, more):
    """Straight comparers that bring each row into order whose first many and last more numbers are in order.

    BadLines unless both are whole numbers from 0 to 10, together from 1 to 10.
    """
    _need_part(many)
    _need_part(more)
    # What is left to ask of the sum is what is asked of lines.
    need_lines(many + more)
    return _merging(list(range(many)), list(range(many, many + more)))


def sorting(lines):
    """Straight comparers of a web that sorts; BadLines."""
    need_lines(lines)
    return _sorting(list(range(lines)))


def beside(lines, comparers, more, others):
    """The comparers of both webs, the second one's lines behind the first one's.

    BadLines and BadWeb of the first one, of the second one, then of both together.
    """
    need_web(lines, comparers)
    need_web(more, others)
    if lines + more > MOST_LINES:
        raise BadLines(f"webs beside one another have at most {MOST_LINES} lines together")
    if len(comparers) + len(others) > MOST_COMPARERS:
        raise BadWeb(None)
    return comparers + [(lines + a, lines + b) for a, b in others]


def _need_part(many):
    if not is_whole(many) or not 0 <= many <= MOST_LINES:
        raise BadLines(f"a part of a row has 0 to {MOST_LINES} numbers")


def _merging(ones, others):
    """Comparers that merge what is on ones, rising lines, with what is on others, those behind them.

    This is Batcher's odd-even merging.
    """
    if ones == [] or others == []:
        return []
    if len(ones) == 1 and len(others) == 1:
        return [(ones[0], others[0])]
    comparers = _merging(ones[::2], others[::2]) + _merging(ones[1::2], others[1::2])
    # Once every second number of each part is merged, and so are those between, none is off by more than one line.
    rising = ones + others
    for place in range(1, len(rising) - 1, 2):
        comparers.append((rising[place], rising[place + 1]))
    return comparers


def _sorting(rising):
    """Comparers that sort what is on the rising lines: each half by itself, then both are merged."""
    if len(rising) < 2:
        return []
    half = len(rising) // 2
    ones = rising[:half]
    others = rising[half:]
    return _sorting(ones) + _sorting(others) + _merging(ones, others)
