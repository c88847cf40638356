"""What is a number, what is a size, what is a set, and what is a row."""

GREATEST_SIZE = 20


def is_number(thing):
    """Tell whether a thing is a whole number, 0 or more."""
    # Only int itself will do: True and False are ints of a kind of their own,
    # and other kinds could answer a comparison with an error.
    return type(thing) is int and thing >= 0


def is_size(thing, least, greatest):
    """Tell whether a thing is a whole number from the least size to the greatest."""
    return is_number(thing) and least <= thing <= greatest


def is_list_of_numbers(thing):
    """Tell whether a thing is a list of at most 20 whole numbers, 0 or more."""
    if type(thing) is not list or len(thing) > GREATEST_SIZE:
        return False
    return all([is_number(each) for each in thing])


def is_falling(numbers):
    """Tell whether each number is less than the one ahead of it."""
    return all([ahead > behind for ahead, behind in zip(numbers, numbers[1:])])


def is_set(thing):
    """Tell whether a thing is a set: a short list of numbers, falling."""
    # The numbers are compared only once all of them are known to be numbers.
    return is_list_of_numbers(thing) and is_falling(thing)


def is_row(thing):
    """Tell whether a thing is a row: a short list of counts, one for each size from 1 on."""
    return is_list_of_numbers(thing)
