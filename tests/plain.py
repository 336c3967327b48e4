"""Webs to ask about, and what they do, told row by row: another way than the program's."""

import itertools


def all_comparers(lines):
    return [(a, b) for a in range(lines) for b in range(lines) if a != b]


def all_rows(lines):
    """Each row of noughts and ones."""
    return [list(row) for row in itertools.product((0, 1), repeat=lines)]


def stations(comparers, row):
    """The row ahead of each comparer and the one that comes out."""
    told = [list(row)]
    for a, b in comparers:
        now = list(told[-1])
        now[a], now[b] = min(now[a], now[b]), max(now[a], now[b])
        told.append(now)
    return told


def out_of(comparers, row):
    return stations(comparers, row)[-1]


def stirred(comparers, row):
    """The places at which the row is exchanged."""
    told = stations(comparers, row)
    return [place for place in range(len(comparers)) if told[place] != told[place + 1]]


def bubbling(lines):
    """Straight comparers that sort: as many as two of the lines can be picked."""
    return [(k, k + 1) for last in range(lines - 1, 0, -1) for k in range(last)]


def small_webs():
    """Each web of up to 3 lines and up to 3 comparers (4 of 2 lines)."""
    told = [(1, [])]
    for lines, most in ((2, 4), (3, 3)):
        for many in range(most + 1):
            told += [(lines, list(picked)) for picked in itertools.product(all_comparers(lines), repeat=many)]
    return told


def great_webs():
    """Webs of 4 to 10 lines and up to 60 comparers, without a pattern, and ones that sort."""
    told = []
    number = 12345
    for lines in range(4, 11):
        for many in (0, 1, 5, 17, 33, 60):
            comparers = []
            while len(comparers) < many:
                number = (number * 1103515245 + 12345) % 2 ** 31
                # The lower bits of such numbers go round and round.
                comparers.append(all_comparers(lines)[(number >> 12) % (lines * (lines - 1))])
            told.append((lines, comparers))
        told.append((lines, bubbling(lines)))
        told.append((lines, bubbling(lines)[:-1]))
        told.append((lines, bubbling(lines)[1:]))
        told.append((lines, bubbling(lines) + [(0, lines - 1), (1, 3), (0, 1)]))
        told.append((lines, [(b, a) for a, b in bubbling(lines)]))
    return told


def webs():
    return small_webs() + great_webs()
