"""Ways from 1 to a number, where each further number is a sum of two that are there already."""


def is_way(c):
    """Answer [2] if c is a star way, [1] if it is another way, else [0]."""
    if len(c) == 0 or c[0] != 1:
        return [0]
    star = True
    for k in range(1, len(c)):
        before = c[:k]
        if c[k] <= c[k - 1] or not is_sum_of_two(c[k], before):
            return [0]
        if c[k] - c[k - 1] not in before:
            star = False
    return [2 if star else 1]


def first(n):
    """Answer how many sums the shortest ways to n take, then the first of these ways."""
    sums = 0
    way = first_onward([1], n, sums)
    while len(way) == 0:
        sums = sums + 1
        way = first_onward([1], n, sums)
    return [sums] + way


def is_sum_of_two(number, there):
    """Tell whether number is a sum of two numbers of there, or of one taken twice."""
    return any([(number - one) in there for one in there])


def first_onward(way, n, left):
    """Give the first way to n that goes on from way by just as many sums as are left; none: an empty list."""
    last = way[-1]
    if left == 0:
        return way if last == n else []
    # A sum is at most twice the last number, so from too low a number n is out of reach.
    if (last << left) < n:
        return []
    # The lesser number is tried first, so the way that is found first is the first in order too.
    for number in next_numbers(way, n):
        found = first_onward(way + [number], n, left - 1)
        if len(found) > 0:
            return found
    return []


def next_numbers(way, n):
    """List, from the least up, the numbers up to n that may come right behind way."""
    all_sums = []
    for one in way:
        all_sums.extend([one + other for other in way])
    return [number for number in sorted(set(all_sums)) if number > way[-1] and number <= n]
