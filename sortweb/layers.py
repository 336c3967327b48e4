"""In how few layers a web stands, and a chain of comparers that shows it."""

from sortweb.webs import need_web


def layers(lines, comparers):
    """The comparers of each layer, as they stand in the web."""
    need_web(lines, comparers)
    found = []
    for comparer, depth in zip(comparers, _depths(lines, comparers)):
        # No depth is left out: one of depth n stands behind one of depth n - 1.
        if depth == len(found):
            found.append([])
        found[depth].append(comparer)
    return found


def chain(lines, comparers):
    """Rising places, as many as layers, of comparers of which each has a line in common with the next one."""
    need_web(lines, comparers)
    depths = _depths(lines, comparers)
    wanted = max(depths, default=0)
    places = []
    # Backwards, as not each comparer has one of the next layer behind it, but each has one of the layer ahead.
    for place in reversed(range(len(comparers))):
        if depths[place] == wanted and (places == [] or _meet(comparers[place], comparers[places[-1]])):
            places.append(place)
            wanted = wanted - 1
    return places[::-1]


def _depths(lines, comparers):
    """How many layers stand ahead of that of each comparer."""
    depths = []
    # Of the comparers on a line the last one stands in the last layer, so one number for each line is enough.
    on_line = [0] * lines
    for a, b in comparers:
        depth = max(on_line[a], on_line[b])
        depths.append(depth)
        on_line[a] = depth + 1
        on_line[b] = depth + 1
    return depths


def _meet(one, other):
    a, b = one
    return a in other or b in other
