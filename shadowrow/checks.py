"""What is a number, what is a size, and what is a set."""

GREATEST_SIZE = 20


def is_number(thing):
    """Tell whether a thing is a whole number, 0 or more."""
    # Only int itself will do: True and False are ints of a kind of their own,
    # and other kinds could answer a comparison with an error.
    return type(thing) is int and thing >= 0


def is_size(thing, least, greatest):
    """Tell whether a thing is a whole number from the least size to the greatest."""
    return is_number(thing) and least <= thing <= greatest


def is_falling(numbers):
    """Tell whether each number is less than the one ahead of it."""
    return all([ahead > behind for ahead, behind in zip(numbers, numbers[1:])])


def is_set(thing):
    """Tell whether a thing is a list of at most 20 numbers, falling."""
    if type(thing) is not list or len(thing) > GREATEST_SIZE:
        return False
    # The numbers are compared only once all of them are known to be numbers.
    return all([is_number(each) for each in thing]) and is_falling(thing)
