"""The fewest sets within so many, and the most sets that so many hold."""

from math import comb

from shadowrow.checks import GREATEST_SIZE, is_number, is_size
from shadowrow.choices import numbers_of_set
from shadowrow.errors import BadNumber, BadSize


def check_number(many):
    """Refuse what is no whole number, 0 or more."""
    if not is_number(many):
        raise BadNumber("how many there are is a whole number, 0 or more")


def first_sets_at(size, many, by):
    """Tell how many sets answer to the first so many of a size, of so many numbers more, or fewer below 0."""
    total = 0
    # The first so many sets are those ahead of the set with that number. They
    # fall into parts, one for each number of that set: the sets that share all
    # ahead of it and choose what is left from the numbers below it. Where the
    # sets have one number more or fewer, what is chosen has so, too.
    for place, each in enumerate(numbers_of_set(size, many)):
        left = size - place
        # A part without a set answers to none, not even to one that chooses all.
        if each >= left:
            total = total + comb(each, left + by)
    return total


def under(size, many):
    """Tell the fewest sets, of one number fewer, within so many sets of a size."""
    if not is_size(size, 1, GREATEST_SIZE):
        raise BadSize("a size with sets within is a whole number from 1 to 20")
    check_number(many)
    return first_sets_at(size, many, -1)


def over(size, many):
    """Tell the most sets of one number more that have all within them among so many sets of a size."""
    if not is_size(size, 1, GREATEST_SIZE - 1):
        raise BadSize("a size with a size behind it is a whole number from 1 to 19")
    check_number(many)
    return first_sets_at(size, many, 1)
