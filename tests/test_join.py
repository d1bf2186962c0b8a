"""Promise 7: a, and behind it b's numbers but its first, each times a's last."""

import unittest

from fewsumsdesk.ways import join
from helper import CallCase, plain_is_way, way_by_bits, ways_up_to

BELOW = 2**32
NO_STAR_WAY = [1, 2, 4, 5, 8]


def doublings(bits):
    """The way of powers of two up to the one with this exponent."""
    return [2**k for k in range(bits + 1)]


def plain_join(a, b):
    """The answer, number by number."""
    numbers = [number for number in a]
    for k in range(1, len(b)):
        numbers.append(b[k] * a[len(a) - 1])
    return [len(a) + len(b) - 2] + numbers


class Join(CallCase):
    def holds(self, a, b, answer):
        with self.subTest(a=a, b=b):
            self.assertEqual(join(a, b), answer)

    def test_1_as_both(self):
        self.holds([1], [1], [0, 1])

    def test_1_as_a(self):
        self.holds([1], [1, 2], [1, 1, 2])
        self.holds([1], [1, 2, 3, 5], [3, 1, 2, 3, 5])
        self.holds([1], NO_STAR_WAY, [4, 1, 2, 4, 5, 8])

    def test_1_as_b(self):
        self.holds([1, 2], [1], [1, 1, 2])
        self.holds([1, 2, 3, 5], [1], [3, 1, 2, 3, 5])
        self.holds(NO_STAR_WAY, [1], [4, 1, 2, 4, 5, 8])

    def test_several_numbers(self):
        self.holds([1, 2], [1, 2, 3], [3, 1, 2, 4, 6])
        self.holds([1, 2, 3], [1, 2], [3, 1, 2, 3, 6])
        self.holds([1, 2, 3, 5], [1, 2, 4, 5], [6, 1, 2, 3, 5, 10, 20, 25])
        self.holds(NO_STAR_WAY, [1, 2, 3], [6, 1, 2, 4, 5, 8, 16, 24])
        self.holds([1, 2, 3], NO_STAR_WAY, [6, 1, 2, 3, 6, 12, 15, 24])

    def test_every_two_ways_up_to_9(self):
        ways = ways_up_to(9)
        self.assertEqual(len(ways), 83)
        for a in ways:
            for b in ways:
                self.assertEqual(join(a, b), plain_join(a, b), (a, b))

    def test_the_answer_is_a_way_to_the_product(self):
        for a in ways_up_to(8):
            for b in ways_up_to(8):
                answer = join(a, b)
                self.assertGreater(plain_is_way(answer[1:]), 0, (a, b))
                self.assertEqual(answer[-1], a[-1] * b[-1])

    def test_the_same_list_as_both(self):
        for way in ways_up_to(9) + [way_by_bits(16), doublings(15), list(range(1, 65))]:
            kept = list(way)
            self.assertEqual(join(way, way), plain_join(kept, kept))
            self.assertEqual(way, kept)

    def test_products_just_below_the_bound(self):
        to_65537 = doublings(16) + [65537]
        for a, b in (
            (way_by_bits(16), to_65537),
            (to_65537, way_by_bits(16)),
            ([1], way_by_bits(32)),
            (way_by_bits(32), [1]),
            ([1, 2], way_by_bits(31)),
            (way_by_bits(31), [1, 2]),
        ):
            self.assertIn(a[-1] * b[-1], (BELOW - 1, BELOW - 2))
            answer = join(a, b)
            self.assertEqual(answer, plain_join(a, b))
            self.assertGreater(plain_is_way(answer[1:]), 0)
            self.assertEqual(answer[-1], a[-1] * b[-1])

    def test_64_numbers_each(self):
        longest = list(range(1, 65))
        answer = join(longest, longest)
        self.assertEqual(answer, [126] + longest + [64 * number for number in range(2, 65)])

    def test_kind_of_the_answer(self):
        for a, b in (([1], [1]), ([1, 2], [1]), ([1], [1, 2]), ([1, 2, 3], NO_STAR_WAY), ([1, 2], way_by_bits(31))):
            self.holds_kind(join(a, b))

    def test_what_is_handed_in_is_not_changed(self):
        for a, b in (([1], [1]), ([1, 2], [1]), ([1], [1, 2]), ([1, 2, 3], NO_STAR_WAY), (NO_STAR_WAY, [1, 2, 3])):
            self.holds_unchanged(join, a, b)

    def test_a_second_call_answers_the_same(self):
        for a, b in (([1], [1]), ([1, 2], [1]), ([1], [1, 2]), ([1, 2, 3], [1, 2, 4])):
            self.holds_again(join, [a, b], [[1, 2], [1, 2, 3]])

    def test_an_answer_has_nothing_in_common_with_what_was_handed_in(self):
        a, b = [1, 2], [1]
        join(a, b).append(7)
        self.assertEqual((a, b), ([1, 2], [1]))


if __name__ == "__main__":
    unittest.main()
