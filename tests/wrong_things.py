"""Things of many kinds to hand in where a refusal is told."""

from decimal import Decimal
from fractions import Fraction


class Touchy:
    """Answers nothing: whatever is asked of it is an error of its own."""

    def refuse(self, *rest):
        raise RuntimeError("asked")

    __eq__ = __lt__ = __le__ = __gt__ = __ge__ = __bool__ = __len__ = refuse
    __iter__ = __index__ = __int__ = __str__ = __repr__ = __hash__ = refuse
    __getitem__ = __contains__ = __add__ = __sub__ = __mul__ = refuse


class Posing(Touchy):
    """Passes itself off as another kind."""

    def __init__(self, kind):
        self._kind = kind

    @property
    def __class__(self):
        return self._kind


class Baffling(Touchy):
    """Does not even tell its kind."""

    @property
    def __class__(self):
        raise RuntimeError("asked")


def touchy_things():
    return [Touchy(), Baffling(), Posing(int), Posing(list), Posing(bool)]


def no_whole_numbers():
    """Things that are no whole numbers at all, True and False among them."""
    plain = [
        True, False, None, 1.0, 0.0, 2.5, float("nan"), float("inf"), -float("inf"), 1j,
        "", "1", "abc", b"", b"1", bytearray(b"1"), (), (1,), [], [1], {}, {1: 1}, set(), {1}, frozenset(),
        range(2), iter([1]), (each for each in [1]), int, list, len, lambda: 1, object(), ...,
        NotImplemented, Decimal(1), Fraction(1), ValueError("1"),
    ]
    return plain + touchy_things()


def negative_numbers():
    return [-1, -2, -20, -10 ** 40, -10 ** 400]


def no_lists():
    """Things that are no lists."""
    plain = [each for each in no_whole_numbers() if type(each) is not list]
    return plain + [0, 1, -1, 10 ** 40, (2, 1, 0), {2: 1, 1: 0}, {2, 1}, "210", b"\x02\x01", range(2, -1, -1)]


def no_sets():
    """Things that are no sets, of every kind."""
    lists = [[each] for each in no_whole_numbers() + negative_numbers()]
    lists += [[5, each] for each in no_whole_numbers() + negative_numbers()]
    lists += [[each, 0] for each in no_whole_numbers() + negative_numbers()]
    lists += [
        [0, 0], [7, 7], [3, 3, 1], [5, 2, 2], [10 ** 40, 10 ** 40], [9, 8, 7, 7, 6],
        [0, 1], [1, 2, 3], [3, 1, 2], [2, 3, 1], [5, 4, 3, 1, 2], [10 ** 40, 10 ** 40 + 1],
        list(range(20, -1, -1)), list(range(100, 0, -1)), [0] * 21, list(range(21)),
    ]
    endless = []
    endless.append(endless)
    return no_lists() + lists + [endless]


def no_rows():
    """Things that are no rows, of every kind."""
    lists = [[each] for each in no_whole_numbers() + negative_numbers()]
    lists += [[5, each] for each in no_whole_numbers() + negative_numbers()]
    lists += [[each, 0] for each in no_whole_numbers() + negative_numbers()]
    lists += [[0] * 21, [1] + [0] * 20, [30] * 21, [0] * 400]
    endless = []
    endless.append(endless)
    return no_lists() + lists + [endless]
