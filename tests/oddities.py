"""Values of many kinds, for the tests of what is refused."""

from decimal import Decimal
from fractions import Fraction


class LikeAll:
    """Equal to everything, and as long as asked for."""

    def __eq__(self, other):
        return True

    def __ne__(self, other):
        return False

    def __le__(self, other):
        return True

    __lt__ = __ge__ = __gt__ = __le__
    __hash__ = None


class Sulky:
    """Fails at whatever is asked of it."""

    def _fail(self, *told):
        raise RuntimeError("asked")

    __eq__ = __ne__ = __lt__ = __le__ = __gt__ = __ge__ = _fail
    __len__ = __iter__ = __bool__ = __hash__ = __str__ = __repr__ = __int__ = _fail
    __index__ = __getitem__ = __contains__ = __add__ = __sub__ = _fail


class Posing:
    """Says of itself that it is of another class."""

    def __init__(self, claimed):
        self.claimed = claimed

    __class__ = property(lambda self: self.claimed)


class SulkyInt(int):
    __eq__ = __ne__ = __lt__ = __le__ = __gt__ = __ge__ = Sulky._fail
    __hash__ = int.__hash__


class SulkyList(list):
    __len__ = __iter__ = __getitem__ = Sulky._fail


class SulkyTuple(tuple):
    __len__ = __iter__ = __getitem__ = Sulky._fail


class SulkyText(str):
    __eq__ = __ne__ = __len__ = __iter__ = partition = split = find = Sulky._fail
    __hash__ = str.__hash__


def others():
    """What is no whole number, no list, no tuple and no text."""
    return [
        None, True, False, 0.0, 1.0, 2.0, 2.5, float("nan"), float("inf"), 2j, Decimal(2), Fraction(2),
        b"", b"2", b"2:", bytearray(b"2:"), {}, {0: 1, 1: 0}, set(), {0, 1}, frozenset({0, 1}), range(2), iter([0, 1]),
        (n for n in (0, 1)), zip([0], [1]), object(), int, list, len, lambda: 2, LikeAll(), Sulky(), Posing(int),
        Posing(list), Posing(tuple), Posing(str), NotImplemented, ...,
    ]


def no_whole_numbers():
    return others() + ["", "0", "2", "2:", [], [0], [2], [0, 1], (), (0,), (0, 1), SulkyInt(2)]


def no_lists():
    return others() + ["", "01", "2:", 0, 1, 2, -1, (), (0, 1), ((0, 1),), ((0, 1), (1, 0)), SulkyList([(0, 1)])]


def no_tuples():
    return others() + ["", "01", "0-1", 0, 1, -1, [], [0, 1], [(0, 1)], SulkyTuple((0, 1))]


def no_texts():
    return others() + [0, 2, [], ["2:"], list("2:"), (), ("2:",), (2, []), SulkyText("2:")]
