"""How a row goes through a web, comparer by comparer."""

from sortweb.webs import need_row, need_web


def run(lines, comparers, row):
    """The row that comes out of the web; BadLines, BadWeb and BadRow of what is none."""
    return steps(lines, comparers, row)[-1]


def steps(lines, comparers, row):
    """The rows ahead of each comparer and, at last, the one that comes out; refusals as of run."""
    need_web(lines, comparers)
    need_row(lines, row)
    rows = [list(row)]
    for comparer in comparers:
        rows.append(_behind(rows[-1], comparer))
    return rows


def _behind(row, comparer):
    """The row behind the comparer, a list of its own where nothing is exchanged, too."""
    a, b = comparer
    out = list(row)
    if row[a] > row[b]:
        out[a] = row[b]
        out[b] = row[a]
    return out
