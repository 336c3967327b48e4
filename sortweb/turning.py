"""Webs that are turned: their lines called otherwise, upside down, and with straight comparers alone."""

from sortweb.errors import BadOrder
from sortweb.webs import is_whole, need_web


def renamed(lines, comparers, order):
    """The comparers where line k is called order[k]; BadOrder of what is no list that has each line once."""
    need_web(lines, comparers)
    _need_order(lines, order)
    return [(order[a], order[b]) for a, b in comparers]


def upside(lines, comparers):
    """The comparers where line k is the k-th from the end, and the greater goes where the lesser went."""
    need_web(lines, comparers)
    return [(lines - 1 - b, lines - 1 - a) for a, b in comparers]


def straightened(lines, comparers):
    """A tuple of straight comparers, as many, and spots.

    What comes out of the web on line k comes out of the straight one on line spots[k].
    """
    need_web(lines, comparers)
    straight = []
    # So far nothing has gone through, so each number is on its line in both webs.
    spots = list(range(lines))
    for a, b in comparers:
        low = min(spots[a], spots[b])
        high = max(spots[a], spots[b])
        straight.append((low, high))
        # The lesser one goes on along a in the web, but along the earlier line in the straight one.
        spots[a] = low
        spots[b] = high
    return straight, spots


def _need_order(lines, order):
    # Kinds come first: nothing but whole numbers is sure to let itself be put in order.
    whole = type(order) is list and all([is_whole(line) for line in order])
    if not whole or sorted(order) != list(range(lines)):
        raise BadOrder("an order is a list that has each line once")
