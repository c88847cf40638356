"""Tests of shadowrow/rows.py: points 1 and 4 of the document."""

import sys
import unittest
from itertools import product
from math import comb

from shadowrow.answers import Answer, Barred, Can
from shadowrow.counts import over, under
from shadowrow.errors import BadRow, BadSet
from shadowrow.rows import has, most, told
from shadowrow.sets import beneath, number_of, set_of
from great_numbers import GREAT
from refusing import RefusingTest
from wrong_things import no_rows, no_sets

# All sets of twenty-five numbers, and the greatest row behind 10 ** 40 numbers.
FULL = [comb(25, size) for size in range(1, 21)]
GREATEST = [comb(10 ** 40, size) for size in range(1, 21)]
ROWS_THAT_CAN_BE = [
    [], [0], [5], [10 ** 40], [4, 6, 4, 1], [4, 5, 2], [0, 0, 0], [3, 0, 0], [0] * 20, [5, 3, 1, 0, 0],
    [7, 12, 6, 1], [10 ** 40, 10 ** 79, 10 ** 100], [20, 190] + [0] * 18, FULL, GREATEST,
]
# With the size and the most of each.
BARRED_ROWS = [
    ([0, 1], 2, 0), ([1, 1], 2, 0), ([3, 4], 2, 3), ([4, 5, 3], 3, 2), ([4, 6, 4, 2], 4, 1), ([5, 0, 1], 3, 0),
    ([0, 0, 0, 0, 1], 5, 0), ([3, 4, 9, 9], 2, 3), ([4, 5, 3, 1], 3, 2), ([0] * 19 + [1], 20, 0),
    ([10 ** 40, 10 ** 80], 2, 10 ** 40 * (10 ** 40 - 1) // 2),
    (FULL[:19] + [FULL[19] + 1], 20, FULL[19]), (GREATEST[:19] + [GREATEST[19] + 1], 20, GREATEST[19]),
]


def families(universe):
    """All families that have with each set all within it, of sets with numbers below the universe.

    A set is the bits of its numbers; the set of size 0 is in each family.
    """
    found = [{0}]
    for some in range(1, 1 << universe):
        within = [some - (1 << each) for each in range(universe) if some >> each & 1]
        found = found + [family | {some} for family in found if all([each in family for each in within])]
    return found


def rows_of_families(universe):
    """All rows, as tuples with a count for each number of the universe, that these families have."""
    rows = set()
    for family in families(universe):
        sizes = [some.bit_count() for some in family]
        rows.add(tuple([sizes.count(size) for size in range(1, universe + 1)]))
    return rows


def prefixes(rows):
    """All beginnings of rows, the rows themselves among them."""
    return {row[:length] for row in rows for length in range(len(row) + 1)}


def told_as(row):
    """What is told of a row, as None or a pair."""
    answer = told(row)
    return None if type(answer) is Can else (answer.size, answer.most)


class ToldTest(unittest.TestCase):
    def test_rows_that_can_be(self):
        for row in ROWS_THAT_CAN_BE:
            self.assertIs(type(told(row)), Can, row)

    def test_barred_rows(self):
        for row, size, can_be in BARRED_ROWS:
            answer = told(row)
            self.assertIs(type(answer), Barred)
            self.assertEqual((answer.size, answer.most), (size, can_be))
            self.assertEqual((type(answer.size), type(answer.most)), (int, int))

    def test_all_small_rows_against_all_families(self):
        # A family with up to four sets of size 1 has no other numbers than theirs.
        can_be = prefixes(rows_of_families(4))
        for length in range(5):
            for row in product(*[range(bound) for bound in (5, 8, 6, 3)[:length]]):
                if row in can_be:
                    self.assertIsNone(told_as(list(row)), row)
                    continue
                size = min([size for size in range(1, length + 1) if row[:size] not in can_be])
                greatest = max([each[-1] for each in can_be if each[:-1] == row[:size - 1] and len(each) == size])
                self.assertEqual(told_as(list(row)), (size, greatest), row)

    def test_rows_of_five_numbers_against_all_families(self):
        can_be = rows_of_families(5)
        for row in product([5], range(7, 11), range(7), range(4), range(2)):
            self.assertEqual(told_as(list(row)) is None, row in can_be, row)

    def test_the_row_of_no_counts_and_rows_of_one_count(self):
        self.assertIs(type(told([])), Can)
        for count in [0, 1, 2, 20, 21] + GREAT:
            self.assertIs(type(told([count])), Can)

    def test_counts_of_twenty_sizes(self):
        self.assertIsNone(told_as(FULL))
        for size in range(2, 21):
            row = FULL[:size - 1] + [FULL[size - 1] + 1] + FULL[size:]
            self.assertEqual(told_as(row), (size, FULL[size - 1]))

    def test_great_counts(self):
        for count in GREAT:
            row = [count]
            while len(row) < 20:
                row.append(over(len(row), row[-1]))
            self.assertIsNone(told_as(row))
            for size in (2, 3, 19, 20):
                raised = row[:size - 1] + [row[size - 1] + 1] + row[size:]
                self.assertEqual(told_as(raised), (size, row[size - 1]))

    def test_counts_of_ten_thousands_of_figures(self):
        count = 7 ** 12000
        self.assertIsNone(told_as([count] * 20))
        self.assertEqual(told_as([count, count ** 2]), (2, count * (count - 1) // 2))

    def test_a_count_behind_a_zero(self):
        for zeros in range(1, 20):
            for count in (1, 2, 10 ** 40):
                self.assertEqual(told_as([0] * zeros + [count]), (zeros + 1, 0))
                self.assertEqual(told_as([count] + [0] * zeros), None)
        self.assertEqual(told_as([5, 3, 0, 1, 9]), (4, 0))

    def test_what_the_first_sets_have_within_can_be(self):
        for size in range(1, 21):
            for many in [0, 1, 2, 50, 10 ** 40]:
                row = [many]
                for each in range(size, 1, -1):
                    row.insert(0, under(each, row[0]))
                self.assertIsNone(told_as(row))
                if size > 1 and many > 0:
                    # Of each size the fewest are there, so with one fewer somewhere there are too many behind it.
                    fewer = row[:size - 2] + [row[size - 2] - 1, many]
                    self.assertEqual(told_as(fewer)[0], size)

    def test_the_answer_shows_the_row_and_no_other_does(self):
        for row in ROWS_THAT_CAN_BE:
            self.assertIs(told(row).shows(row), True)
            self.assertIs(Barred(2, 0).shows(row), False)
        for row, _, _ in BARRED_ROWS:
            self.assertIs(told(row).shows(row), True)
            self.assertIs(Can().shows(row), False)

    def test_what_is_told_may_be_changed(self):
        first = told([3, 4])
        first.size, first.most = 7, 7
        second = told([3, 4])
        self.assertEqual((second.size, second.most), (2, 3))
        self.assertIsNot(told([3]), told([3]))

    def test_a_row_that_is_changed_changes_no_answer(self):
        row = [3, 4]
        answer = told(row)
        row.clear()
        self.assertEqual(vars(answer), {"size": 2, "most": 3})
        self.assertIsInstance(told(row), Answer)


class HasTest(unittest.TestCase):
    def test_the_sets_of_the_family_and_no_others(self):
        for row in ([], [0], [3], [3, 2], [4, 5, 2], [4, 6, 4, 1], [5, 7, 0], [6, 11, 9, 3]):
            for size in range(7):
                for number in range(30 if size > 0 else 1):
                    there = size == 0 or size <= len(row) and number < row[size - 1]
                    self.assertIs(has(row, set_of(size, number)), there)

    def test_the_family_has_the_row_and_with_each_set_all_within(self):
        for row in ([3, 2], [4, 5, 2], [4, 6, 4, 1], [7, 12, 6, 1]):
            for size in range(1, 6):
                family = [some for some in map(lambda at: set_of(size, at), range(40)) if has(row, some)]
                self.assertEqual(len(family), (row + [0] * 5)[size - 1])
                for some in family:
                    self.assertTrue(all([has(row, each) for each in beneath(some)]))

    def test_the_last_set_of_the_family_and_the_first_that_it_has_not(self):
        for row in ROWS_THAT_CAN_BE:
            for at, count in enumerate(row):
                self.assertIs(has(row, set_of(at + 1, count)), False)
                if count > 0:
                    self.assertIs(has(row, set_of(at + 1, count - 1)), True)
                    self.assertIs(has(row, set_of(at + 1, 0)), True)

    def test_every_family_has_the_set_of_size_0(self):
        for row in ROWS_THAT_CAN_BE:
            self.assertIs(has(row, []), True)

    def test_more_numbers_than_counts(self):
        for row in ROWS_THAT_CAN_BE:
            for size in range(len(row) + 1, 21):
                self.assertIs(has(row, set_of(size, 0)), False)
                self.assertIs(has(row, set_of(size, 10 ** 40)), False)

    def test_great_sets(self):
        self.assertIs(has([10 ** 40], [10 ** 40 - 1]), True)
        self.assertIs(has([10 ** 40], [10 ** 40]), False)
        self.assertIs(has(GREATEST, list(range(10 ** 40 - 1, 10 ** 40 - 21, -1))), True)
        self.assertIs(has(GREATEST, [10 ** 40] + list(range(18, -1, -1))), False)

    def test_what_is_handed_in_stays_as_it_was(self):
        row, some = [4, 5, 2], [3, 1]
        has(row, some)
        told(row)
        most(row)
        told([4, 7, 2])
        self.assertEqual((row, some), ([4, 5, 2], [3, 1]))

    def test_a_row_that_is_changed_is_asked_anew(self):
        row = [4, 5]
        self.assertIs(has(row, [3, 2]), False)
        row[1] = 6
        self.assertIs(has(row, [3, 2]), True)


class MostTest(unittest.TestCase):
    def test_rows_begun(self):
        self.assertEqual(most([0]), 0)
        self.assertEqual(most([4]), 6)
        self.assertEqual(most([4, 6]), 4)
        self.assertEqual(most([4, 5]), 2)
        self.assertEqual(most([4, 6, 4]), 1)
        self.assertEqual(most([9, 0]), 0)
        self.assertEqual(most([10 ** 40]), 10 ** 40 * (10 ** 40 - 1) // 2)

    def test_small_rows_against_all_families(self):
        can_be = prefixes(rows_of_families(4))
        for row in can_be:
            if 1 <= len(row) < 4:
                greatest = max([each[-1] for each in can_be if each[:-1] == row and len(each) > len(row)])
                self.assertEqual(most(list(row)), greatest)

    def test_so_many_can_be_and_one_more_is_barred(self):
        for row in ROWS_THAT_CAN_BE:
            if 1 <= len(row) < 20:
                can_be = most(row)
                self.assertIs(type(can_be), int)
                self.assertIsNone(told_as(row + [can_be]))
                self.assertEqual(told_as(row + [can_be + 1]), (len(row) + 1, can_be))

    def test_rows_of_nineteen_counts(self):
        self.assertEqual(most(FULL[:19]), FULL[19])
        self.assertEqual(most(GREATEST[:19]), GREATEST[19])
        self.assertEqual(most([0] * 19), 0)


class RefusalsTest(RefusingTest):
    def test_what_is_no_row(self):
        for at, thing in enumerate(no_rows()):
            with self.subTest(at=at, kind=type(thing).__name__):
                self.refused(BadRow, told, thing)
                self.refused(BadRow, has, thing, [0])
                self.refused(BadRow, most, thing)

    def test_no_row_behind_too_many(self):
        # The row is looked at whole before it is told where it is barred.
        for row in ([1, 5, None], [1, 5, -1], [1, 5, True], [1, 5] + [0] * 19):
            self.refused(BadRow, told, row)
            self.refused(BadRow, has, row, [])
            self.refused(BadRow, most, row)

    def test_more_than_twenty_counts(self):
        self.assertIs(type(told([0] * 20)), Can)
        self.refused(BadRow, told, [0] * 21)
        self.refused(BadRow, told, FULL + [1])
        self.refused(BadRow, has, FULL + [1], [0])
        self.refused(BadRow, most, FULL + [1])

    def test_barred_rows(self):
        for row, _, _ in BARRED_ROWS:
            self.refused(BadRow, has, row, [0])
            self.refused(BadRow, has, row, [])
            self.refused(BadRow, most, row)

    def test_most_of_no_counts_and_of_twenty(self):
        for row in ([], [0] * 20, FULL, GREATEST):
            self.assertIs(type(told(row)), Can)
            self.refused(BadRow, most, row)

    def test_what_is_no_set(self):
        for row in ([], [5], FULL):
            for at, thing in enumerate(no_sets()):
                with self.subTest(at=at, kind=type(thing).__name__):
                    self.refused(BadSet, has, row, thing)

    def test_of_a_wrong_row_and_a_wrong_set_the_row_is_refused(self):
        for row in (None, True, "row", (1, 2), [-1], [True], [0] * 21, [3, 4], [0, 1]):
            for some in (None, True, "set", (1, 0), [0, 1], [-1], [1, 1], [5, False]):
                self.refused(BadRow, has, row, some)

    def test_numbers_too_long_to_be_written_are_refused_all_the_same(self):
        long = 10 ** (sys.get_int_max_str_digits() + 1000)
        for row in ([-long], [3, -long]):
            self.refused(BadRow, told, row)
            self.refused(BadRow, most, row)
        self.refused(BadRow, has, [3, long], [0])
        self.refused(BadRow, most, [3, long])
        self.refused(BadSet, has, [3], [0, long])

    def test_what_is_refused_stays_as_it_was(self):
        row, some = [3, 4, None], [1, 1]
        self.refused(BadRow, told, row)
        self.refused(BadRow, most, row)
        self.refused(BadRow, has, row, some)
        self.refused(BadSet, has, [3], some)
        self.assertEqual((row, some), ([3, 4, None], [1, 1]))


if __name__ == "__main__":
    unittest.main()
