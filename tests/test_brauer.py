"""Promise 8: along a star way c to a power of two less one."""

import unittest

from fewsumsdesk.ways import brauer
from helper import CallCase, plain_is_way, ways_up_to

STAR_WAYS = [way for way in ways_up_to(12) if plain_is_way(way) == 2]
TO_62 = (
    list(range(1, 63)),
    [1, 2, 3, 6, 7, 14, 15, 30, 31, 62],
    [1, 2, 4, 8, 16, 32, 48, 56, 60, 62],
    [1, 2, 3, 5, 8, 13, 21, 34, 55, 60, 62],
    [1] + list(range(2, 63, 2)),
)


def plain_brauer(c):
    """The answer by what each number must come to: (2^x - 1) doubled k times, and 2^y - 1."""
    numbers = [1]
    for x, y in zip(c, c[1:]):
        numbers += [2 ** (x + k) - 2**k for k in range(1, y - x + 1)]
        numbers.append(2**y - 1)
    return [len(numbers) - 1] + numbers


class Brauer(CallCase):
    def test_1(self):
        self.assertEqual(brauer([1]), [0, 1])

    def test_short_ways(self):
        for c, answer in (
            ([1, 2], [2, 1, 2, 3]),
            ([1, 2, 3], [4, 1, 2, 3, 6, 7]),
            ([1, 2, 4], [5, 1, 2, 3, 6, 12, 15]),
            ([1, 2, 3, 5], [7, 1, 2, 3, 6, 7, 14, 28, 31]),
            ([1, 2, 4, 5], [7, 1, 2, 3, 6, 12, 15, 30, 31]),
            ([1, 2, 3, 4], [6, 1, 2, 3, 6, 7, 14, 15]),
        ):
            with self.subTest(c=c):
                self.assertEqual(brauer(c), answer)

    def test_every_star_way_up_to_12(self):
        self.assertEqual(len(STAR_WAYS), 532)
        for c in STAR_WAYS:
            self.assertEqual(brauer(c), plain_brauer(c), c)

    def test_star_ways_to_62(self):
        for c in TO_62:
            with self.subTest(c=c):
                self.assertEqual(plain_is_way(c), 2)
                self.assertEqual(brauer(c), plain_brauer(c))
                self.assertEqual(brauer(c)[-1], 4611686018427387903)

    def test_the_longest_star_way(self):
        answer = brauer(list(range(1, 63)))
        self.assertEqual(answer[0], 122)
        self.assertEqual(answer[:6], [122, 1, 2, 3, 6, 7])
        self.assertEqual(answer[-2:], [4611686018427387902, 4611686018427387903])

    def test_the_answer_is_a_way_to_the_power_less_one(self):
        for c in STAR_WAYS + list(TO_62):
            answer = brauer(c)
            self.assertGreater(plain_is_way(answer[1:]), 0, c)
            self.assertEqual(answer[-1], 2 ** c[-1] - 1)

    def test_as_many_sums_as_the_last_number_and_the_way_itself_take(self):
        for c in STAR_WAYS + list(TO_62):
            answer = brauer(c)
            self.assertEqual(answer[0], len(answer) - 2)
            self.assertEqual(answer[0], c[-1] - 1 + len(c) - 1)

    def test_kind_of_the_answer(self):
        for c in STAR_WAYS + list(TO_62):
            self.holds_kind(brauer(c))

    def test_what_is_handed_in_is_not_changed(self):
        for c in ([1], [1, 2], [1, 2, 3, 5]) + TO_62:
            self.holds_unchanged(brauer, c)

    def test_a_second_call_answers_the_same(self):
        for c in ([1], [1, 2], [1, 2, 3, 5]) + TO_62:
            self.holds_again(brauer, [c], [[1, 2, 4]])

    def test_a_changed_way_is_looked_at_anew(self):
        c = [1, 2, 3]
        self.assertEqual(brauer(c), [4, 1, 2, 3, 6, 7])
        c[2] = 4
        self.assertEqual(brauer(c), [5, 1, 2, 3, 6, 12, 15])


if __name__ == "__main__":
    unittest.main()
