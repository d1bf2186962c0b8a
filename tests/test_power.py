"""Promise 9: for each of c's numbers x, base to the power x, modulo m."""

import unittest

from fewsumsdesk.ways import power
from helper import CallCase, plain_is_way, way_by_bits, ways_up_to

TOP = 4294967295
NO_STAR_WAY = [1, 2, 4, 5, 8]
# Three ways of 64 numbers: by the bits of TOP; by doublings, then each power of two once more; and one that is no
# star way, since each doubling there passes over the number right before it.
BY_BITS = [1, 2, 3, 4] + way_by_bits(32)[3:]
BY_DOUBLINGS = [1, 2, 3] + [2**k for k in range(2, 32)] + [2**32 - 2**k for k in range(30, -1, -1)]
PASSING_OVER = [1, 2] + [number for k in range(2, 32) for number in (2**k, 2**k + 1)] + [2**31 + 2, 2**31 + 3]
BASES = (0, 1, 2, 3, 10, 65535, 65536, 65537, 2147483647, TOP - 1, TOP)
MODULI = (1, 2, 3, 7, 10, 65536, 65537, 2147483648, 4294967291, TOP - 1, TOP)


def plain_power(base, m, c):
    return [len(c) - 1] + [pow(base, number, m) for number in c]


class Power(CallCase):
    def holds(self, base, m, c):
        self.assertEqual(power(base, m, c), plain_power(base, m, c), (base, m, c))

    def test_known_powers(self):
        for base, m, c, answer in (
            (2, 1000, [1, 2, 4, 5, 10], [4, 2, 4, 16, 32, 24]),
            (3, 7, [1, 2, 3, 6], [3, 3, 2, 6, 1]),
            (10, 9, [1, 2, 3], [2, 1, 1, 1]),
            (2, 100, NO_STAR_WAY, [4, 2, 4, 16, 32, 56]),
        ):
            with self.subTest(base=base, m=m, c=c):
                self.assertEqual(power(base, m, c), answer)

    def test_1_as_c(self):
        self.assertEqual(power(5, 7, [1]), [0, 5])
        self.assertEqual(power(7, 5, [1]), [0, 2])
        self.assertEqual(power(TOP, TOP - 1, [1]), [0, 1])
        for base in BASES:
            for m in MODULI:
                self.assertEqual(power(base, m, [1]), [0, base % m])

    def test_1_as_m(self):
        for base in BASES:
            self.assertEqual(power(base, 1, [1]), [0, 0])
            self.assertEqual(power(base, 1, NO_STAR_WAY), [4, 0, 0, 0, 0, 0])

    def test_0_as_base(self):
        for m in MODULI:
            self.assertEqual(power(0, m, [1]), [0, 0])
            self.assertEqual(power(0, m, NO_STAR_WAY), [4, 0, 0, 0, 0, 0])

    def test_multiples_of_m(self):
        for base, m in ((7, 7), (14, 7), (TOP, TOP), (TOP, 65535), (TOP, 65537), (TOP - 1, 2), (65536, 65536)):
            self.assertEqual(base % m, 0)
            self.assertEqual(power(base, m, [1, 2, 3]), [2, 0, 0, 0])

    def test_a_multiple_of_m_from_the_second_power_on(self):
        self.assertEqual(power(6, 36, [1, 2, 3]), [2, 6, 0, 0])
        self.assertEqual(power(65536, 2147483648, [1, 2, 3]), [2, 65536, 0, 0])

    def test_1_and_one_less_than_m_as_base(self):
        for m in MODULI[1:]:
            self.assertEqual(power(1, m, NO_STAR_WAY), [4, 1, 1, 1, 1, 1])
            self.assertEqual(power(m - 1, m, NO_STAR_WAY), [4, m - 1, 1, 1, m - 1, 1])

    def test_every_way_up_to_10(self):
        for c in ways_up_to(10):
            for base, m in ((0, 5), (2, TOP), (3, 1000), (10, 7), (TOP, 4294967291)):
                self.holds(base, m, c)

    def test_the_greatest_numbers(self):
        for c in (BY_BITS, BY_DOUBLINGS):
            self.assertEqual(c[-1], TOP)
            for base in BASES:
                for m in MODULI:
                    self.holds(base, m, c)

    def test_64_numbers(self):
        for c, kind in ((list(range(1, 65)), 2), (BY_BITS, 2), (BY_DOUBLINGS, 2), (PASSING_OVER, 1)):
            self.assertEqual(len(c), 64)
            self.assertEqual(plain_is_way(c), kind)
            for base, m in ((2, 1000), (3, TOP), (TOP, 4294967291), (TOP - 1, TOP), (0, 1)):
                self.holds(base, m, c)

    def test_ways_that_are_no_star_ways(self):
        for c in (NO_STAR_WAY, [1, 2, 3, 6, 7, 12], [1, 2, 4, 5, 8, 9, 16, 17, 32], PASSING_OVER):
            self.assertEqual(plain_is_way(c), 1)
            for base in BASES:
                for m in MODULI:
                    self.holds(base, m, c)

    def test_kind_of_the_answer(self):
        for c in ([1], [1, 2], NO_STAR_WAY, BY_BITS):
            for base in BASES:
                answer = power(base, 1000, c)
                self.holds_kind(answer)
                self.assertEqual(len(answer), len(c) + 1)

    def test_what_is_handed_in_is_not_changed(self):
        for c in ([1], [1, 2], NO_STAR_WAY, BY_BITS, list(range(1, 65))):
            self.holds_unchanged(power, 3, 1000, c)

    def test_a_second_call_answers_the_same(self):
        for c in ([1], [1, 2], NO_STAR_WAY, BY_BITS):
            self.holds_again(power, [3, 1000, c], [5, 1000, c])
            self.holds_again(power, [3, 1000, c], [3, 999, c])


if __name__ == "__main__":
    unittest.main()
