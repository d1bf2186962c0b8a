"""Promise 1: 2 of a star way, 1 of another way, else 0."""

import itertools
import unittest

from fewsumsdesk.ways import is_way
from helper import CallCase, plain_is_way, way_by_bits

TOP = 4294967295


class IsWay(CallCase):
    def holds(self, answer, *lists):
        for c in lists:
            with self.subTest(c=c):
                self.assertEqual(is_way(c), [answer])

    def test_none(self):
        self.holds(0, [])

    def test_begins_with_another_number_than_1(self):
        self.holds(0, [2], [2, 4], [2, 3], [3, 6, 12], [TOP], [2, 1])

    def test_begins_with_0(self):
        self.holds(0, [0], [0, 1], [0, 0], [0, 1, 2], [0, 1, 1])

    def test_star_ways(self):
        self.holds(2, [1], [1, 2], [1, 2, 3], [1, 2, 4], [1, 2, 3, 4, 7], [1, 2, 3, 5, 8, 13], [1, 2, 4, 8, 9, 17])

    def test_ways_that_are_no_star_ways(self):
        self.holds(1, [1, 2, 4, 5, 8], [1, 2, 3, 6, 7, 12], [1, 2, 4, 5, 8, 16], [1, 2, 4, 5, 8, 9])

    def test_no_sum_of_two_before(self):
        self.holds(0, [1, 3], [1, 2, 5], [1, 2, 3, 7], [1, 2, 4, 7], [1, 2, 4, 5, 8, 11], [1, 3, 4], [1, TOP])

    def test_a_sum_of_three_is_none_of_two(self):
        self.holds(0, [1, 2, 4, 8, 11], [1, 2, 4, 8, 13])

    def test_equal_to_the_one_before(self):
        self.holds(0, [1, 1], [1, 2, 2], [1, 2, 3, 3], [1, 2, 2, 4], [1, 1, 2])

    def test_less_than_the_one_before(self):
        self.holds(0, [1, 0], [1, 2, 0], [1, 2, 1], [1, 2, 4, 3], [1, 2, 4, 3, 7], [1, 2, 4, 8, 6, 12])

    def test_64_numbers(self):
        row = list(range(1, 65))
        self.holds(2, row)
        other = [1, 2, 4, 5] + [8 * k for k in range(1, 61)]
        self.assertEqual(len(other), 64)
        self.holds(1, other)
        self.holds(0, row[:63] + [127], row[:63] + [63], row[:63] + [62], row[:63] + [0], [2] + row[1:], [0] + row[1:])

    def test_numbers_up_to_the_greatest(self):
        way = way_by_bits(32)
        self.assertEqual(way[-1], TOP)
        longest = [1, 2, 3, 4] + way[3:]
        self.assertEqual((len(longest), longest[-1]), (64, TOP))
        self.holds(2, way, longest, way_by_bits(31) + [2 * (2 ** 31 - 1)])
        doubles = [2 ** k for k in range(31)]
        self.holds(1, doubles + [2 ** 30 + 1, 2 ** 31], doubles + [2 ** 30 + 1, 2 ** 31, 2 ** 31 + 2 ** 30 + 1])
        self.holds(0, doubles + [TOP], way[:-1] + [TOP - 1], way[:-2] + [TOP], way + [TOP], [TOP] * 64)

    def test_every_short_list_of_small_numbers(self):
        for size in range(6):
            for c in itertools.product(range(7), repeat=size):
                self.assertEqual(is_way(list(c)), [plain_is_way(c)], c)

    def test_every_rising_list_from_1(self):
        for size in range(9):
            for rest in itertools.combinations(range(2, 15), size):
                c = (1,) + rest
                self.assertEqual(is_way(list(c)), [plain_is_way(c)], c)

    def test_kind_of_the_answer(self):
        for c in ([], [0], [1], [1, 2, 4, 5, 8], [1, 3]):
            self.holds_kind(is_way(c))

    def test_what_is_handed_in_is_not_changed(self):
        for c in ([], [0, 1], [1], [1, 2, 4, 5, 8], [1, 2, 2], [1, 2, 5], list(range(1, 65))):
            self.holds_unchanged(is_way, c)

    def test_a_second_call_answers_the_same(self):
        for c in ([], [1], [1, 2, 4, 5, 8], [1, 3]):
            self.holds_again(is_way, [c], [[1, 2, 3]])

    def test_a_changed_list_is_looked_at_anew(self):
        c = [1, 2]
        self.assertEqual(is_way(c), [2])
        c[1] = 3
        self.assertEqual(is_way(c), [0])


if __name__ == "__main__":
    unittest.main()
