"""Promise 4: how many sums of rows it takes, at the least, to have the row l."""

import itertools
import unittest

from fewsumsdesk.ways import several, vector
from helper import CallCase

TOP = 9


def rows_of(size):
    """Every row of so many numbers from 1 up that come to TOP at the most."""
    return [row for row in itertools.product(range(1, TOP + 1), repeat=size) if sum(row) <= TOP]


def plain_least_sums(size):
    """For each such row the least sums to it, by making every set of rows, sum by sum, in whatever order."""
    start = frozenset(tuple(int(place == one) for place in range(size)) for one in range(size))
    least = {row: 0 for row in start}
    sets = {start}
    sums = 0
    while any(row not in least for row in rows_of(size)):
        sums += 1
        greater = set()
        for rows in sets:
            for one, other in itertools.combinations_with_replacement(rows, 2):
                row = tuple(x + y for x, y in zip(one, other))
                # What goes over TOP in all leads to none of the rows that are asked for.
                if sum(row) <= TOP and row not in rows:
                    least.setdefault(row, sums)
                    greater.add(rows | {row})
        sets = greater
    return least


class Vector(CallCase):
    def holds(self, sums, *rows):
        for l in rows:
            with self.subTest(l=l):
                self.assertEqual(vector(l), [sums])

    def holds_for_every_row(self, size, how_many):
        least = plain_least_sums(size)
        rows = rows_of(size)
        self.assertEqual(len(rows), how_many)
        for l in rows:
            self.assertEqual(vector(list(l)), [least[l]], l)

    def test_every_row_of_one_number(self):
        self.holds_for_every_row(1, 9)

    def test_every_row_of_two_numbers(self):
        self.holds_for_every_row(2, 36)

    def test_every_row_of_three_numbers(self):
        self.holds_for_every_row(3, 84)

    def test_rows_of_ones(self):
        self.holds(0, [1])
        self.holds(1, [1, 1])
        self.holds(2, [1, 1, 1])

    def test_one_number(self):
        self.holds(1, [2])
        self.holds(2, [3], [4])
        self.holds(3, [5], [6], [8])
        self.holds(4, [7], [9])

    def test_the_same_number_all_over(self):
        self.holds(2, [2, 2])
        self.holds(3, [3, 3], [4, 4], [2, 2, 2])
        self.holds(4, [3, 3, 3])

    def test_rows_that_come_to_the_most(self):
        self.holds(4, [1, 8], [8, 1], [3, 6], [6, 3], [4, 5], [1, 4, 4])
        self.holds(5, [2, 7], [1, 2, 6], [2, 3, 4], [4, 3, 2])
        self.holds(6, [1, 1, 7], [1, 7, 1], [7, 1, 1])

    def test_the_order_of_the_numbers_makes_no_difference(self):
        for l in rows_of(3):
            self.assertEqual(vector(list(l)), vector(sorted(l)), l)

    def test_as_many_as_a_way_with_these_numbers_and_one_for_each_further_place(self):
        """The two counts belong together, as Olivos showed."""
        for size in (1, 2, 3):
            for l in rows_of(size):
                self.assertEqual(vector(list(l)), [several(list(l))[0] + size - 1], l)

    def test_kind_of_the_answer(self):
        for l in ([1], [9], [1, 1], [1, 8], [3, 3, 3], [1, 1, 7]):
            answer = vector(l)
            self.holds_kind(answer)
            self.assertEqual(len(answer), 1)

    def test_what_is_handed_in_is_not_changed(self):
        for l in ([1], [9], [1, 1], [8, 1], [3, 3, 3], [7, 1, 1]):
            self.holds_unchanged(vector, l)

    def test_a_second_call_answers_the_same(self):
        for l in ([1], [9], [1, 1], [8, 1], [3, 3, 3]):
            self.holds_again(vector, [l], [[2, 5]])

    def test_a_changed_row_is_looked_at_anew(self):
        l = [1, 1]
        self.assertEqual(vector(l), [1])
        l[1] = 8
        self.assertEqual(vector(l), [4])


if __name__ == "__main__":
    unittest.main()
