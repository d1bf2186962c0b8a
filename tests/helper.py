"""What the tests of all calls have in common."""

import unittest


class Unchangeable(list):
    """A list that takes no change, so that one which is undone later is seen too."""

    def refuse(self, *args, **kwargs):
        raise AssertionError("what was handed in was changed")

    append = extend = insert = pop = remove = clear = sort = reverse = refuse
    __setitem__ = __delitem__ = __iadd__ = __imul__ = refuse


def plain_is_way(c):
    """The document's words, pair by pair."""
    if not c or c[0] != 1:
        return 0
    star = True
    for k in range(1, len(c)):
        pairs = [(i, j) for i in range(k) for j in range(k) if c[i] + c[j] == c[k]]
        if not pairs or not c[k] > c[k - 1]:
            return 0
        if all(i != k - 1 for i, j in pairs):
            star = False
    return 2 if star else 1


def way_by_bits(bits):
    """A star way of 2 * bits - 1 numbers to the power of two less one."""
    way = [1]
    for _ in range(bits - 1):
        way += [2 * way[-1], 2 * way[-1] + 1]
    return way


def ways_up_to(top):
    """Every way whose last number is top at the most."""
    ways = []
    longer = [[1]]
    while longer:
        ways += longer
        shorter, longer = longer, []
        for way in shorter:
            sums = sorted({one + other for one in way for other in way})
            longer += [way + [number] for number in sums if way[-1] < number <= top]
    return ways


def copied(argument):
    return list(argument) if isinstance(argument, list) else argument


class CallCase(unittest.TestCase):
    def holds_kind(self, answer):
        """The answer is a list of whole numbers, and none of them True or False."""
        self.assertIs(type(answer), list)
        self.assertEqual({type(number) for number in answer}, {int})

    def holds_unchanged(self, call, *arguments):
        """The call leaves its arguments as they are, and answers the same where they can't be changed at all."""
        handed_in = [copied(argument) for argument in arguments]
        answer = call(*handed_in)
        self.assertEqual(handed_in, list(arguments))
        fixed = [Unchangeable(argument) if isinstance(argument, list) else argument for argument in arguments]
        self.assertEqual(call(*fixed), answer)

    def holds_again(self, call, arguments, others):
        """What is done with an answer, or called in between, doesn't change what the next call answers."""
        answer = call(*[copied(argument) for argument in arguments])
        kept = list(answer)
        answer[0] = 99
        answer.append(7)
        call(*others)
        self.assertEqual(call(*[copied(argument) for argument in arguments]), kept)
