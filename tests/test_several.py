"""Promise 3: how many sums the ways take, at the least, among whose numbers are all of l."""

import itertools
import unittest

from fewsumsdesk.ways import first, several
from helper import CallCase

TOP = 25


def plain_least_sums(top):
    """For each set of one to three numbers up to top the sums of the shortest ways with these, by writing down all."""
    sets = [frozenset(some) for size in (1, 2, 3) for some in itertools.combinations(range(1, top + 1), size)]
    least = {frozenset([1]): 0}
    ways = [(1,)]
    while len(least) < len(sets):
        longer = []
        for way in ways:
            for number in {one + other for one in way for other in way}:
                if way[-1] < number <= top:
                    longer.append(way + (number,))
        for way in longer:
            for size in (0, 1, 2):
                for others in itertools.combinations(way[:-1], size):
                    least.setdefault(frozenset(others + way[-1:]), len(way) - 1)
        ways = longer
    return least


class Several(CallCase):
    @classmethod
    def setUpClass(cls):
        cls.least = plain_least_sums(TOP)

    def holds(self, sums, *lists):
        for l in lists:
            with self.subTest(l=l):
                self.assertEqual(self.least[frozenset(l)], sums)
                self.assertEqual(several(l), [sums])

    def test_every_list(self):
        for size in (1, 2, 3):
            for l in itertools.product(range(1, TOP + 1), repeat=size):
                self.assertEqual(several(list(l)), [self.least[frozenset(l)]], l)

    def test_1_takes_no_sum(self):
        self.holds(0, [1], [1, 1], [1, 1, 1])

    def test_one_number_takes_as_many_as_its_shortest_way(self):
        for n in range(1, TOP + 1):
            self.assertEqual(several([n]), first(n)[:1])

    def test_numbers_of_one_shortest_way(self):
        self.holds(2, [2, 3], [2, 4], [1, 2, 4])
        self.holds(4, [2, 4, 16], [3, 6, 12])
        self.holds(5, [9, 18], [5, 10, 20])
        self.holds(6, [5, 20, 25])

    def test_numbers_twice_and_thrice(self):
        self.holds(1, [2, 2], [2, 2, 2], [1, 2, 1])
        self.holds(3, [3, 4, 3], [4, 3, 4])
        self.holds(6, [23, 23], [23, 23, 23], [25, 25], [25, 25, 25])

    def test_numbers_that_do_not_rise(self):
        self.holds(4, [7, 3], [3, 7], [7, 3, 1], [1, 7, 3], [3, 1, 7])
        self.holds(8, [24, 23, 6], [23, 6, 24], [6, 23, 24])

    def test_numbers_that_no_shortest_way_to_the_greatest_has(self):
        for sums, l in ((3, [3, 4]), (4, [3, 8]), (4, [3, 4, 5]), (5, [7, 8]), (7, [23, 24]), (8, [6, 23, 24])):
            self.holds(sums, l)
            self.assertGreater(sums, first(max(l))[0])

    def test_greatest_numbers(self):
        self.holds(6, [24, 25], [1, 24, 25])
        self.holds(7, [20, 24, 25])
        self.holds(8, [23, 24, 25])

    def test_kind_of_the_answer(self):
        for l in ([1], [25], [1, 1], [7, 3], [6, 23, 24], [25, 25, 25]):
            answer = several(l)
            self.holds_kind(answer)
            self.assertEqual(len(answer), 1)

    def test_what_is_handed_in_is_not_changed(self):
        for l in ([1], [25], [1, 1], [7, 3], [24, 23, 6], [25, 25, 25], [9, 1, 9]):
            self.holds_unchanged(several, l)

    def test_a_second_call_answers_the_same(self):
        for l in ([1], [25], [1, 1], [7, 3], [24, 23, 6]):
            self.holds_again(several, [l], [[23, 11]])

    def test_a_changed_list_is_looked_at_anew(self):
        l = [3, 8]
        self.assertEqual(several(l), [4])
        l[0] = 4
        self.assertEqual(several(l), [3])


if __name__ == "__main__":
    unittest.main()
