"""Promise 2: how many sums the shortest ways to n take, then the first of these ways."""

import unittest

from fewsumsdesk.ways import first
from helper import CallCase

TOP = 80


def plain_shortest_ways(top):
    """For each number up to top all its shortest ways, by writing down every way there is."""
    shortest = {1: [[1]]}
    ways = [[1]]
    while len(shortest) < top:
        longer = []
        for way in ways:
            for number in {one + other for one in way for other in way}:
                if way[-1] < number <= top:
                    longer.append(way + [number])
        found = {}
        for way in longer:
            if way[-1] not in shortest:
                found.setdefault(way[-1], []).append(way)
        shortest.update(found)
        ways = longer
    return shortest


class First(CallCase):
    @classmethod
    def setUpClass(cls):
        cls.shortest = plain_shortest_ways(TOP)

    def test_the_search_itself(self):
        self.assertEqual(sorted(self.shortest), list(range(1, TOP + 1)))
        self.assertEqual(sorted(self.shortest[5]), [[1, 2, 3, 5], [1, 2, 4, 5]])

    def test_every_number(self):
        for n in range(1, TOP + 1):
            with self.subTest(n=n):
                way = min(self.shortest[n])
                self.assertEqual(first(n), [len(way) - 1] + way)

    def test_1_takes_no_sum(self):
        self.assertEqual(first(1), [0, 1])

    def test_numbers_with_one_shortest_way(self):
        for n, answer in ((2, [1, 1, 2]), (3, [2, 1, 2, 3]), (4, [2, 1, 2, 4]), (64, [6, 1, 2, 4, 8, 16, 32, 64])):
            self.assertEqual(len(self.shortest[n]), 1)
            self.assertEqual(first(n), answer)

    def test_numbers_with_several_shortest_ways(self):
        for n, answer in (
            (5, [3, 1, 2, 3, 5]),
            (7, [4, 1, 2, 3, 4, 7]),
            (15, [5, 1, 2, 3, 5, 10, 15]),
            (19, [6, 1, 2, 3, 4, 8, 11, 19]),
            (23, [6, 1, 2, 3, 5, 10, 13, 23]),
            (71, [9, 1, 2, 3, 4, 7, 8, 16, 32, 39, 71]),
            (77, [8, 1, 2, 4, 5, 9, 18, 36, 41, 77]),
            (79, [9, 1, 2, 3, 4, 7, 9, 18, 36, 43, 79]),
        ):
            with self.subTest(n=n):
                self.assertGreater(len(self.shortest[n]), 1)
                self.assertEqual(first(n), answer)

    def test_least_numbers_by_sums(self):
        """The least numbers that take 0, 1, 2 .. sums, as they are known in print."""
        least = {}
        for n in range(1, TOP + 1):
            least.setdefault(first(n)[0], n)
        self.assertEqual([least[sums] for sums in sorted(least)], [1, 2, 3, 5, 7, 11, 19, 29, 47, 71])

    def test_kind_of_the_answer(self):
        for n in range(1, TOP + 1):
            self.holds_kind(first(n))

    def test_a_second_call_answers_the_same(self):
        for n in (1, 2, 7, 23, 80):
            self.holds_again(first, [n], [81 - n])


if __name__ == "__main__":
    unittest.main()
