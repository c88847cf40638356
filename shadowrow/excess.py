"""Where a row has more sets of a size than can be."""

from shadowrow.counts import over


def first_excess(row):
    """Tell the least size of which a row has more than can be, and how many can be; None without one."""
    for size in range(1, len(row)):
        can_be = over(size, row[size - 1])
        if row[size] > can_be:
            return size + 1, can_be
    return None
