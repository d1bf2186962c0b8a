"""Promise 5: how many sums and differences it takes, at the least, to have n."""

import unittest

from fewsumsdesk.ways import either, first
from helper import CallCase

TOP = 20


def plain_least_steps(top):
    """For each number up to top the least sums and differences to it, by making every set of numbers there is."""
    least = {1: 0}
    sets = {frozenset([1])}
    steps = 0
    while any(n not in least for n in range(1, top + 1)):
        steps += 1
        greater = set()
        for numbers in sets:
            sums = {one + other for one in numbers for other in numbers}
            differences = {one - other for one in numbers for other in numbers if one > other}
            for number in (sums | differences) - numbers:
                least.setdefault(number, steps)
                greater.add(numbers | {number})
        sets = greater
    return least


class Either(CallCase):
    def holds(self, steps, *numbers):
        for n in numbers:
            with self.subTest(n=n):
                self.assertEqual(either(n), [steps])

    def test_every_number(self):
        least = plain_least_steps(TOP)
        for n in range(1, TOP + 1):
            with self.subTest(n=n):
                self.assertEqual(either(n), [least[n]])

    def test_1_takes_none(self):
        self.holds(0, 1)

    def test_powers_of_two(self):
        self.holds(1, 2)
        self.holds(2, 4)
        self.holds(3, 8)
        self.holds(4, 16)

    def test_numbers_one_below_a_power_of_two(self):
        """A difference leads to these: 2, 4, 8 .. and then one less."""
        self.holds(2, 3)
        self.holds(4, 7)
        self.holds(5, 15)

    def test_other_numbers(self):
        self.holds(3, 5, 6)
        self.holds(4, 9, 10, 12)
        self.holds(5, 11, 13, 14, 17, 18, 20)
        self.holds(6, 19)

    def test_never_more_than_by_sums_alone(self):
        for n in range(1, TOP + 1):
            self.assertLessEqual(either(n)[0], first(n)[0], n)

    def test_a_number_that_a_difference_brings_nearer(self):
        """Up to 20 sums alone do as well; 31 is the first that they don't: 2, 4, 8, 16, 32, and one less."""
        self.assertEqual(first(31)[0], 7)
        self.holds(6, 31)

    def test_kind_of_the_answer(self):
        for n in range(1, TOP + 1):
            answer = either(n)
            self.holds_kind(answer)
            self.assertEqual(len(answer), 1)

    def test_a_second_call_answers_the_same(self):
        for n in (1, 2, 7, 19, 20):
            self.holds_again(either, [n], [21 - n])


if __name__ == "__main__":
    unittest.main()
