"""Tests of shadowrow/counts.py: points 1 and 3 of the document."""

import sys
import unittest
from math import comb

from shadowrow.counts import over, under
from shadowrow.errors import BadNumber, BadSize
from shadowrow.sets import beneath, number_of, set_of
from great_numbers import GREAT
from refusing import RefusingTest
from wrong_things import negative_numbers, no_whole_numbers

UNDER_SIZES = range(1, 21)
OVER_SIZES = range(1, 20)


def numbers_within(size, many):
    """The numbers of all sets of one number fewer within the first so many sets, looked up one by one."""
    within = set()
    for number in range(many):
        within.update([number_of(some) for some in beneath(set_of(size, number))])
    return sorted(within)


def held_by_first(size, many):
    """How many sets of one number more have all within them among the first so many, looked up one by one."""
    held = 0
    # The first so many sets have no numbers from many + size on, so neither have those they hold.
    for number in range(comb(many + size, size + 1)):
        if all([number_of(some) < many for some in beneath(set_of(size + 1, number))]):
            held = held + 1
    return held


def looked_through(size, universe):
    """By how many sets a family has: the fewest within any such family, the most held by any such family.

    All families of sets of that size are looked through, of sets with numbers below the universe.
    """
    here, below, above = [comb(universe, each) for each in (size, size - 1, size + 1)]
    within = [sum([1 << number_of(some) for some in beneath(set_of(size, at))]) for at in range(here)]
    held_by = [sum([1 << number_of(some) for some in beneath(set_of(size + 1, at))]) for at in range(above)]
    fewest, greatest = [below] * (here + 1), [0] * (here + 1)
    all_within = [0]
    for family in range(1 << here):
        many = family.bit_count()
        if family > 0:
            last = family.bit_length() - 1
            all_within.append(all_within[family - (1 << last)] | within[last])
        fewest[many] = min(fewest[many], all_within[family].bit_count())
        held = len([each for each in held_by if each & family == each])
        greatest[many] = max(greatest[many], held)
    return fewest, greatest


class UnderTest(unittest.TestCase):
    def test_pairs_need_as_few_numbers_as_can_be(self):
        self.assertEqual([under(2, many) for many in range(12)], [0, 2, 3, 3, 4, 4, 4, 5, 5, 5, 5, 6])

    def test_triples_need_as_few_pairs_as_can_be(self):
        self.assertEqual([under(3, many) for many in range(12)], [0, 3, 5, 6, 6, 8, 9, 9, 10, 10, 10, 12])

    def test_the_first_sets_have_just_the_first_sets_within(self):
        for size in range(1, 7):
            for many in list(range(40)) + [57, 120]:
                self.assertEqual(numbers_within(size, many), list(range(under(size, many))))

    def test_the_first_sets_of_size_20(self):
        for many in (1, 2, 19, 20, 21, 22, 40, 231, 232):
            self.assertEqual(numbers_within(20, many), list(range(under(20, many))))

    def test_no_other_sets_have_fewer_within(self):
        for size, universe in ((1, 5), (2, 5), (3, 5), (4, 5), (2, 6), (4, 6), (5, 6)):
            fewest, _ = looked_through(size, universe)
            self.assertEqual([under(size, many) for many in range(len(fewest))], fewest)

    def test_within_sets_of_size_1_lies_the_empty_set(self):
        self.assertEqual(under(1, 0), 0)
        for many in [1, 2, 3, 77] + GREAT:
            self.assertEqual(under(1, many), 1)

    def test_none_have_none_within(self):
        for size in UNDER_SIZES:
            self.assertEqual(under(size, 0), 0)

    def test_one_has_as_many_within_as_its_size(self):
        for size in UNDER_SIZES:
            self.assertEqual(under(size, 1), size)

    def test_all_sets_of_so_many_numbers(self):
        for size in UNDER_SIZES:
            for top in (size, size + 1, 57, 10 ** 12, 10 ** 40, 10 ** 300):
                self.assertEqual(under(size, comb(top, size)), comb(top, size - 1))

    def test_one_more_than_all_sets_of_so_many_numbers(self):
        for size in UNDER_SIZES[1:]:
            for top in (size, size + 1, 57, 10 ** 12, 10 ** 40, 10 ** 300):
                self.assertEqual(under(size, comb(top, size) + 1), comb(top, size - 1) + size - 1)

    def test_the_last_of_the_first_sets_has_the_last_set_within(self):
        for size in UNDER_SIZES:
            for many in list(range(1, 100)) + GREAT:
                # It is the one without the last number: no earlier set has a later one within.
                self.assertEqual(under(size, many) - 1, number_of(set_of(size, many - 1)[:-1]))

    def test_the_answer_is_an_int_itself(self):
        for size, many in ((1, 0), (1, 1), (20, 0), (3, 7), (20, 10 ** 40)):
            self.assertIs(type(under(size, many)), int)


class OverTest(unittest.TestCase):
    def test_pairs_hold_triples(self):
        self.assertEqual([over(2, many) for many in range(12)], [0, 0, 0, 1, 1, 2, 4, 4, 5, 7, 10, 10])

    def test_what_the_first_sets_hold(self):
        for size, most_sets in ((1, 14), (2, 12), (3, 9), (4, 7)):
            for many in range(most_sets):
                self.assertEqual(over(size, many), held_by_first(size, many))

    def test_no_other_sets_hold_more(self):
        for size, universe in ((1, 5), (2, 5), (3, 5), (4, 5), (2, 6), (4, 6), (5, 6)):
            _, greatest = looked_through(size, universe)
            self.assertEqual([over(size, many) for many in range(len(greatest))], greatest)

    def test_numbers_hold_their_pairs(self):
        for many in [0, 1, 2, 3, 77] + GREAT:
            self.assertEqual(over(1, many), many * (many - 1) // 2)

    def test_none_hold_none(self):
        for size in OVER_SIZES:
            self.assertEqual(over(size, 0), 0)

    def test_one_is_held_by_as_many_as_its_size(self):
        for size in OVER_SIZES:
            self.assertEqual((over(size, size), over(size, size + 1)), (0, 1))

    def test_all_sets_of_so_many_numbers(self):
        for size in OVER_SIZES:
            for top in (size, size + 1, 57, 10 ** 12, 10 ** 40, 10 ** 300):
                self.assertEqual(over(size, comb(top, size)), comb(top, size + 1))

    def test_one_fewer_than_all_sets_of_so_many_numbers(self):
        for size in OVER_SIZES:
            for top in (size, size + 1, 57, 10 ** 12, 10 ** 40, 10 ** 300):
                # The set that is missing lies within one of those held for each other number.
                self.assertEqual(over(size, comb(top, size) - 1), comb(top, size + 1) - (top - size))

    def test_the_answer_is_an_int_itself(self):
        for size, many in ((1, 0), (1, 3), (19, 0), (3, 7), (19, 10 ** 40)):
            self.assertIs(type(over(size, many)), int)


class UnderAndOverTest(unittest.TestCase):
    def against_each_other(self, size, many):
        held = over(size, many)
        self.assertLessEqual(under(size + 1, held), many)
        self.assertGreater(under(size + 1, held + 1), many)

    def test_small_counts(self):
        for size in OVER_SIZES:
            for many in range(150):
                self.against_each_other(size, many)

    def test_counts_of_forty_figures_and_far_more(self):
        for size in OVER_SIZES:
            for many in GREAT:
                self.against_each_other(size, many)

    def test_counts_of_ten_thousands_of_figures(self):
        for size in (1, 2, 3, 18, 19):
            self.against_each_other(size, 7 ** 24000)

    def test_what_is_held_by_those_within_is_no_less(self):
        for size in OVER_SIZES:
            for many in list(range(60)) + GREAT:
                self.assertGreaterEqual(over(size, under(size + 1, many)), many)


class RefusalsTest(RefusingTest):
    def test_what_is_no_size(self):
        for at, thing in enumerate(no_whole_numbers() + negative_numbers() + [0, 21, 22, 10 ** 40]):
            with self.subTest(at=at, kind=type(thing).__name__):
                self.refused(BadSize, under, thing, 1)
                self.refused(BadSize, over, thing, 1)

    def test_the_least_and_the_greatest_sizes(self):
        self.assertEqual((under(1, 3), under(20, 3)), (1, 20 + 19 + 18))
        self.assertEqual((over(1, 3), over(19, 21)), (3, 1))
        self.refused(BadSize, over, 20, 1)
        self.refused(BadSize, over, 20, 0)

    def test_what_is_no_number(self):
        for size in (1, 2, 19):
            for at, thing in enumerate(no_whole_numbers() + negative_numbers()):
                with self.subTest(size=size, at=at, kind=type(thing).__name__):
                    self.refused(BadNumber, under, size, thing)
                    self.refused(BadNumber, over, size, thing)

    def test_of_a_wrong_size_and_a_wrong_number_the_size_is_refused(self):
        for size in (-1, 0, 21, True, None, "2", 2.0, [2]):
            for many in (-1, True, None, "0", 0.0, [0]):
                self.refused(BadSize, under, size, many)
                self.refused(BadSize, over, size, many)
        self.refused(BadSize, over, 20, -1)
        self.refused(BadNumber, under, 20, -1)

    def test_numbers_too_long_to_be_written_are_refused_all_the_same(self):
        long = 10 ** (sys.get_int_max_str_digits() + 1000)
        for ask in (under, over):
            self.refused(BadSize, ask, long, 1)
            self.refused(BadNumber, ask, 3, -long)

    def test_what_is_refused_stays_as_it_was(self):
        thing = [3, 1]
        for ask in (under, over):
            self.refused(BadSize, ask, thing, thing)
            self.refused(BadNumber, ask, 2, thing)
        self.assertEqual(thing, [3, 1])


if __name__ == "__main__":
    unittest.main()
