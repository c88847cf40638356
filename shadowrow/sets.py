"""Sets by their numbers."""

from math import comb

from shadowrow.checks import GREATEST_SIZE, is_number, is_set, is_size
from shadowrow.choices import numbers_of_set
from shadowrow.errors import BadNumber, BadSet, BadSize


def check_set(some):
    """Refuse what is no set."""
    # The messages name nothing that was handed in, so that no error keeps it.
    if not is_set(some):
        raise BadSet("a set is a list of at most 20 whole numbers, 0 or more, falling")


def number_of(some):
    """Tell the number that a set has among the sets of its size."""
    check_set(some)
    number = 0
    for place, each in enumerate(some):
        # The sets that share all ahead of this place and have a lesser number
        # here choose what is left of them from the numbers below this one.
        number = number + comb(each, len(some) - place)
    return number


def set_of(size, number):
    """Tell the set of that size that has that number."""
    if not is_size(size, 0, GREATEST_SIZE):
        raise BadSize("a size is a whole number from 0 to 20")
    if not is_number(number):
        raise BadNumber("a set's number is a whole number, 0 or more")
    if size == 0 and number > 0:
        raise BadNumber("the one set of size 0 has number 0")
    return numbers_of_set(size, number)


def beneath(some):
    """Tell the sets with one number fewer that lie within a set, rising by their numbers."""
    check_set(some)
    # Without a number further ahead, lesser ones move to the front: so these rise.
    return [some[:place] + some[place + 1:] for place in range(len(some))]
