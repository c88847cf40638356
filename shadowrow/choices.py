"""Which numbers the set of a number has, at once."""

from math import comb, factorial


def power(base, degree):
    """Tell the base multiplied by itself, as many times as the degree tells."""
    worth = 1
    for _ in range(degree):
        worth = worth * base
    return worth


def guess_above(number, degree):
    """Tell a number somewhat above the root of a number, 1 or more."""
    half = number.bit_length() // (2 * degree)
    if half == 0:
        return 1 << (number.bit_length() // degree + 1)
    # The root of the front half of the bits is cheap, and so near to the whole
    # one that only a few steps over all bits are left, however great the number.
    return (whole_root(number >> (half * degree), degree) + 1) << half


def whole_root(number, degree):
    """Tell the greatest whole number whose power of that degree is at most the number."""
    if number == 0:
        return 0
    root = guess_above(number, degree)
    # Newton's steps, from above, fall until they reach the root.
    while True:
        step = ((degree - 1) * root + number // power(root, degree - 1)) // degree
        if step >= root:
            return root
        root = step


def greatest_first(size, number):
    """Tell the greatest `first` below which no more than `number` sets of that size, 1 or more, lie."""
    # Below `first` lie comb(first, size) sets. Times factorial(size) that is the
    # product of first, first - 1 and so on, at most the power of their mean,
    # first - (size - 1) / 2. So one may start where that mean is the root, and
    # fewer than `size` steps lead from there.
    first = whole_root(number * factorial(size), size) + (size - 1) // 2
    while comb(first + 1, size) <= number:
        first = first + 1
    return first


def numbers_of_set(size, number):
    """Tell the numbers, falling, of the set of that size that has that number."""
    numbers = []
    for left in range(size, 0, -1):
        first = greatest_first(left, number)
        numbers.append(first)
        number = number - comb(first, left)
    return numbers
