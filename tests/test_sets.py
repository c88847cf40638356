"""Tests of shadowrow/sets.py: points 1 and 2 of the document."""

import sys
import unittest
from itertools import combinations
from math import comb

from shadowrow.errors import BadNumber, BadSet, BadSize
from shadowrow.sets import beneath, number_of, set_of
from great_numbers import GREAT
from refusing import RefusingTest
from wrong_things import negative_numbers, no_sets, no_whole_numbers

SIZES = range(21)


def sets_in_order(size, below):
    """All sets of a size with numbers below a bound, by their first numbers, then by their second ones .."""
    return sorted([list(falling) for falling in combinations(range(below - 1, -1, -1), size)])


def next_set(some):
    """The set behind a set: the last number that can be raised is, and those behind it start anew."""
    size = len(some)
    for place in range(size - 1, -1, -1):
        if place == 0 or some[place] + 1 < some[place - 1]:
            return some[:place] + [some[place] + 1] + list(range(size - place - 2, -1, -1))
    raise AssertionError("the set of size 0 has none behind it")


class NumberOfTest(unittest.TestCase):
    def test_the_order_that_the_document_shows(self):
        for number, some in enumerate([[1, 0], [2, 0], [2, 1], [3, 0], [3, 1], [3, 2], [4, 0]]):
            self.assertEqual(number_of(some), number)

    def test_small_sets_in_their_order(self):
        for size, below in ((1, 30), (2, 15), (3, 12), (4, 10), (5, 10), (8, 11), (20, 22)):
            for number, some in enumerate(sets_in_order(size, below)):
                self.assertEqual(number_of(some), number)

    def test_the_set_of_size_0_has_number_0(self):
        self.assertEqual(number_of([]), 0)

    def test_of_size_1_the_number_is_the_only_member(self):
        for member in [0, 1, 2, 77] + GREAT:
            self.assertEqual(number_of([member]), member)

    def test_the_first_sets_of_each_size(self):
        for size in SIZES:
            self.assertEqual(number_of(list(range(size - 1, -1, -1))), 0)

    def test_great_members(self):
        for n in GREAT:
            self.assertEqual(number_of([n, 5]), n * (n - 1) // 2 + 5)
            self.assertEqual(number_of([n, n - 1, n - 2]), (n + 1) * n * (n - 1) // 6 - 1)

    def test_twenty_great_members(self):
        top = 10 ** 400
        last_below = list(range(top - 1, top - 21, -1))
        ways = 1
        for each in range(20):
            ways = ways * (top - each) // (each + 1)
        self.assertEqual(number_of(last_below), ways - 1)
        self.assertEqual(number_of([top] + list(range(18, -1, -1))), ways)

    def test_the_number_is_an_int_itself(self):
        for some in ([], [0], [5, 3], [10 ** 40, 2]):
            self.assertIs(type(number_of(some)), int)

    def test_what_is_handed_in_stays_as_it_was(self):
        some = [10 ** 40, 9, 4, 0]
        number_of(some)
        self.assertEqual(some, [10 ** 40, 9, 4, 0])

    def test_a_changed_list_is_asked_anew(self):
        some = [4, 2]
        self.assertEqual(number_of(some), 8)
        some[1] = 3
        self.assertEqual(number_of(some), 9)
        some.append(3)
        with self.assertRaises(BadSet):
            number_of(some)


class SetOfTest(unittest.TestCase):
    def test_the_order_that_the_document_shows(self):
        self.assertEqual([set_of(2, number) for number in range(4)], [[1, 0], [2, 0], [2, 1], [3, 0]])

    def test_small_numbers_in_their_order(self):
        for size, below in ((1, 30), (2, 15), (3, 12), (4, 10), (5, 10), (8, 11), (20, 22)):
            for number, some in enumerate(sets_in_order(size, below)):
                self.assertEqual(set_of(size, number), some)

    def test_of_size_0_number_0_is_the_empty_set(self):
        self.assertEqual(set_of(0, 0), [])

    def test_of_size_1_the_number_is_the_only_member(self):
        for number in [0, 1, 2, 77] + GREAT:
            self.assertEqual(set_of(1, number), [number])

    def test_number_0_of_each_size(self):
        for size in SIZES:
            self.assertEqual(set_of(size, 0), list(range(size - 1, -1, -1)))

    def test_numbers_where_the_first_member_rises(self):
        for size in range(2, 21):
            for first in (size, size + 1, 57, 10 ** 12, 10 ** 40, 10 ** 300):
                ways = comb(first, size)
                self.assertEqual(set_of(size, ways), [first] + list(range(size - 2, -1, -1)))
                self.assertEqual(set_of(size, ways - 1), list(range(first - 1, first - size - 1, -1)))

    def test_great_numbers_there_and_back(self):
        for size in SIZES[1:]:
            for number in GREAT:
                some = set_of(size, number)
                self.assertEqual(len(some), size)
                self.assertGreaterEqual(some[-1], 0)
                self.assertTrue(all([ahead > behind for ahead, behind in zip(some, some[1:])]))
                self.assertEqual(number_of(some), number)

    def test_great_numbers_one_behind_the_other(self):
        for size in SIZES[1:]:
            for number in GREAT:
                self.assertEqual(set_of(size, number + 1), next_set(set_of(size, number)))

    def test_numbers_of_ten_thousands_of_figures(self):
        number = 7 ** 24000
        for size in (1, 2, 3, 19, 20):
            self.assertEqual(number_of(set_of(size, number)), number)

    def test_small_numbers_there_and_back(self):
        for size in SIZES[1:]:
            for number in range(300):
                self.assertEqual(number_of(set_of(size, number)), number)

    def test_the_answer_is_a_list_of_ints(self):
        for size, number in ((0, 0), (1, 5), (3, 10 ** 40)):
            some = set_of(size, number)
            self.assertIs(type(some), list)
            self.assertEqual([type(each) for each in some], [int] * size)

    def test_an_answer_that_is_changed_changes_no_later_one(self):
        for size, number in ((0, 0), (1, 4), (2, 3), (20, 10 ** 40)):
            first = set_of(size, number)
            kept = list(first)
            first.append("changed")
            first.reverse()
            self.assertEqual(set_of(size, number), kept)


class BeneathTest(unittest.TestCase):
    def test_ordinary_sets(self):
        self.assertEqual(beneath([3, 2]), [[2], [3]])
        self.assertEqual(beneath([4, 2, 1]), [[2, 1], [4, 1], [4, 2]])
        self.assertEqual(beneath([9, 5, 3, 0]), [[5, 3, 0], [9, 3, 0], [9, 5, 0], [9, 5, 3]])

    def test_the_set_of_size_0_has_none(self):
        self.assertEqual(beneath([]), [])

    def test_within_a_set_of_size_1_lies_the_empty_set(self):
        self.assertEqual(beneath([0]), [[]])
        self.assertEqual(beneath([10 ** 40]), [[]])

    def test_small_sets_against_all_sets_of_the_size_below(self):
        for size in range(1, 6):
            smaller = sets_in_order(size - 1, 8)
            for some in sets_in_order(size, 8):
                self.assertEqual(beneath(some), [each for each in smaller if set(each) <= set(some)])

    def test_rising_by_number_for_every_size(self):
        for size in SIZES[1:]:
            for number in (0, 5, 1000, 10 ** 40, 10 ** 300):
                some = set_of(size, number)
                numbers = [number_of(each) for each in beneath(some)]
                self.assertEqual(len(numbers), size)
                self.assertTrue(all([low < high for low, high in zip(numbers, numbers[1:])]))

    def test_what_is_handed_in_stays_as_it_was(self):
        some = [10 ** 40, 9, 4]
        beneath(some)
        self.assertEqual(some, [10 ** 40, 9, 4])

    def test_the_answer_is_a_list_of_lists(self):
        told = beneath([5, 3, 1])
        self.assertIs(type(told), list)
        self.assertEqual([type(each) for each in told], [list] * 3)

    def test_an_answer_that_is_changed_changes_neither_the_set_nor_a_later_answer(self):
        for some in ([], [3], [7, 2], [9, 5, 1]):
            kept = list(some)
            first = beneath(some)
            told = [list(each) for each in first]
            for each in first:
                each.append("changed")
            first.append("changed")
            self.assertEqual(some, kept)
            self.assertEqual(beneath(some), told)

    def test_a_set_that_is_changed_changes_no_earlier_answer(self):
        some = [9, 5, 1]
        told = beneath(some)
        some.clear()
        self.assertEqual(told, [[5, 1], [9, 1], [9, 5]])


class RefusalsTest(RefusingTest):
    def test_what_is_no_set(self):
        for at, thing in enumerate(no_sets()):
            with self.subTest(at=at, kind=type(thing).__name__):
                self.refused(BadSet, number_of, thing)
                self.refused(BadSet, beneath, thing)

    def test_more_than_twenty_numbers(self):
        most = list(range(19, -1, -1))
        self.assertEqual(number_of(most), 0)
        self.assertEqual(len(beneath(most)), 20)
        self.refused(BadSet, number_of, [20] + most)
        self.refused(BadSet, beneath, [20] + most)

    def test_what_is_no_size(self):
        for at, thing in enumerate(no_whole_numbers() + negative_numbers() + [21, 22, 10 ** 40]):
            with self.subTest(at=at, kind=type(thing).__name__):
                self.refused(BadSize, set_of, thing, 0)

    def test_what_is_no_number(self):
        for size in (0, 1, 2, 20):
            for at, thing in enumerate(no_whole_numbers() + negative_numbers()):
                with self.subTest(size=size, at=at, kind=type(thing).__name__):
                    self.refused(BadNumber, set_of, size, thing)

    def test_of_size_0_only_number_0(self):
        for number in [1, 2, 20] + GREAT:
            self.refused(BadNumber, set_of, 0, number)

    def test_of_a_wrong_size_and_a_wrong_number_the_size_is_refused(self):
        for size in (-1, 21, True, None, "2", 2.0, [2]):
            for number in (-1, True, None, "0", 0.0, [0]):
                self.refused(BadSize, set_of, size, number)

    def test_numbers_too_long_to_be_written_are_refused_all_the_same(self):
        long = 10 ** (sys.get_int_max_str_digits() + 1000)
        self.refused(BadSet, number_of, [0, long])
        self.refused(BadSet, beneath, [long, -long])
        self.refused(BadSize, set_of, long, 0)
        self.refused(BadNumber, set_of, 3, -long)
        self.refused(BadNumber, set_of, 0, long)

    def test_what_is_refused_stays_as_it_was(self):
        some = [3, 1, 2]
        self.refused(BadSet, number_of, some)
        self.refused(BadSet, beneath, some)
        self.assertEqual(some, [3, 1, 2])


if __name__ == "__main__":
    unittest.main()
