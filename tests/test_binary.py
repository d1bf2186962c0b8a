"""Promise 6: how many sums n's way by bits takes, then this way."""

import unittest

from fewsumsdesk.ways import binary, is_way
from helper import CallCase

TOP = 2147483647
SMALL = range(1, 2001)
# A prime stride, so that the low bits change from one number to the next as the high ones do.
DRAWN = range(1000003, TOP, 1000003)
BY_POWERS = sorted({n for bits in range(32) for n in (2**bits - 1, 2**bits, 2**bits + 1) if 1 <= n <= TOP})


def plain_way(n):
    """What n's bits, read from the highest down, come to one by one."""
    bits = bin(n)[2:]
    way = [1]
    for size in range(2, len(bits) + 1):
        if bits[size - 1] == "1":
            way.append(int(bits[: size - 1] + "0", 2))
        way.append(int(bits[:size], 2))
    return way


class Binary(CallCase):
    def holds(self, numbers):
        for n in numbers:
            way = plain_way(n)
            self.assertEqual(binary(n), [len(way) - 1] + way, n)

    def test_least_numbers(self):
        for n, answer in (
            (1, [0, 1]),
            (2, [1, 1, 2]),
            (3, [2, 1, 2, 3]),
            (4, [2, 1, 2, 4]),
            (5, [3, 1, 2, 4, 5]),
            (6, [3, 1, 2, 3, 6]),
            (7, [4, 1, 2, 3, 6, 7]),
            (23, [7, 1, 2, 4, 5, 10, 11, 22, 23]),
        ):
            with self.subTest(n=n):
                self.assertEqual(binary(n), answer)

    def test_every_small_number(self):
        self.holds(SMALL)

    def test_powers_of_two_less_one_and_one_more(self):
        self.assertEqual((BY_POWERS[0], BY_POWERS[-1]), (1, TOP))
        self.holds(BY_POWERS)

    def test_numbers_from_the_whole_range(self):
        self.holds(DRAWN)
        self.holds(range(TOP - 100, TOP + 1))

    def test_a_power_of_two_takes_no_sum_but_doublings(self):
        for bits in range(31):
            self.assertEqual(binary(2**bits), [bits] + [2**k for k in range(bits + 1)])

    def test_the_greatest_number(self):
        answer = binary(TOP)
        self.assertEqual(answer[0], 60)
        self.assertEqual(answer[:6], [60, 1, 2, 3, 6, 7])
        self.assertEqual(answer[-3:], [1073741823, 2147483646, TOP])

    def test_the_answer_is_a_star_way_to_n(self):
        for n in list(SMALL) + BY_POWERS + list(DRAWN):
            answer = binary(n)
            self.assertEqual(is_way(answer[1:]), [2], n)
            self.assertEqual(answer[-1], n)
            self.assertEqual(answer[0], len(answer) - 2, n)

    def test_a_sum_for_each_bit_and_each_set_bit_behind_the_highest(self):
        for n in list(SMALL) + BY_POWERS + list(DRAWN):
            bits = bin(n)[3:]
            self.assertEqual(binary(n)[0], len(bits) + bits.count("1"), n)

    def test_kind_of_the_answer(self):
        for n in list(SMALL) + BY_POWERS:
            self.holds_kind(binary(n))

    def test_a_second_call_answers_the_same(self):
        for n in (1, 2, 3, 1000, TOP):
            self.holds_again(binary, [n], [TOP + 1 - n])


if __name__ == "__main__":
    unittest.main()
