"""Ways from 1 to a number, where each further number is a sum of two that are there already."""


def is_way(c):
    """Answer [2] if c is a star way, [1] if it is another way, else [0]."""
    if len(c) == 0 or c[0] != 1:
        return [0]
    star = True
    for k in range(1, len(c)):
        before = c[:k]
        if c[k] <= c[k - 1] or len(parts_within(c[k], before)) == 0:
            return [0]
        if c[k] - c[k - 1] not in before:
            star = False
    return [2 if star else 1]


def first(n):
    """Answer how many sums the shortest ways to n take, then the first of these ways."""
    way = shortest_way([n])
    return [len(way) - 1] + way


def several(l):
    """Answer how many sums the shortest ways with all numbers of l among theirs take."""
    return [len(shortest_way(l)) - 1]


def vector(l):
    """Answer how many sums of rows it takes, at the least, to have the row l from the rows with a single one."""
    start = [totalled(row_with_one(len(l), place)) for place in range(len(l))]
    goal = totalled(l)
    return [fewest_steps(start, goal, lambda rows: next_rows(rows, goal))]


def either(n):
    """Answer how many sums and differences it takes, at the least, to have n from 1."""
    return [fewest_steps([1], n, sums_and_differences)]


def binary(n):
    """Answer how many sums n's way by bits takes, then this way."""
    way = [1]
    for place in range(n.bit_length() - 2, -1, -1):
        way.append(way[-1] + way[-1])
        if (n >> place) % 2 == 1:
            way.append(way[-1] + 1)
    return [len(way) - 1] + way


def join(a, b):
    """Answer how many sums the way takes that goes along a, and from a's last number on along b, then this way."""
    way = a + [number * a[-1] for number in b[1:]]
    return [len(way) - 1] + way


def brauer(c):
    """Answer how many numbers, less one, lead along the star way c to a power of two less one, then these."""
    numbers = [1]
    for k in range(1, len(c)):
        for doubling in range(c[k] - c[k - 1]):
            numbers.append(numbers[-1] + numbers[-1])
        numbers.append((1 << c[k]) - 1)
    return [len(numbers) - 1] + numbers


def power(base, m, c):
    """Answer one less than how many numbers the way c has, then for each of them base to its power, modulo m."""
    powers = {1: base % m}
    # A product of two powers is the power to their sum: one product is enough for each number of a way.
    for number in c[1:]:
        one = parts_within(number, list(powers))[0]
        powers[number] = powers[one] * powers[number - one] % m
    return [len(c) - 1] + [powers[number] for number in c]


def parts_within(number, there):
    """List those of there that come to number with one of there added, which may be the same."""
    return [one for one in there if (number - one) in there]


def shortest_way(numbers):
    """Give the first of the shortest ways that have all these numbers among theirs."""
    # 1 is there from the outset.
    wanted = [number for number in sorted(set(numbers)) if number > 1]
    # Fewer sums are tried first, so a way that is found takes no sum too many.
    sums = 0
    way = way_onward([1], wanted, sums)
    while len(way) == 0:
        sums = sums + 1
        way = way_onward([1], wanted, sums)
    return way


def way_onward(way, wanted, left):
    """Give the first way that goes on from way to all that is wanted, by as many sums as are left, else an empty list.

    What is wanted rises, and is all above way's last number.
    """
    if len(wanted) == 0:
        return way
    # A sum is at most twice the last number, so from too low a number the greatest is out of reach.
    if left < len(wanted) or (way[-1] << left) < wanted[-1]:
        return []
    # The lesser number is tried first, so the way that is found first is the first in order too.
    for number in next_numbers(way, wanted[0]):
        rest = wanted[1:] if number == wanted[0] else wanted
        found = way_onward(way + [number], rest, left - 1)
        if len(found) > 0:
            return found
    return []


def next_numbers(way, most):
    """List, from the least up, the numbers up to most that may come right behind way."""
    all_sums = []
    for one in way:
        all_sums.extend([one + other for other in way])
    return [number for number in sorted(set(all_sums)) if number > way[-1] and number <= most]


def fewest_steps(start, goal, onward):
    """Count the steps it takes, at the least, from start to goal, each to one more of those that onward lists."""
    steps = 0
    while not is_within(start, goal, steps, onward):
        steps = steps + 1
    return steps


def is_within(there, goal, left, onward):
    """Tell whether goal is there already, or comes to be there by at most as many steps as are left."""
    if goal in there:
        return True
    if left == 0:
        return False
    for one_more in onward(there):
        if is_within(there + [one_more], goal, left - 1, onward):
            return True
    return False


def row_with_one(size, place):
    """Make a row of so many numbers with a one at place and else zeros."""
    return [0] * place + [1] + [0] * (size - place - 1)


def totalled(row):
    """Put a row's total ahead of its numbers."""
    return tuple([sum(row)] + row)


def next_rows(rows, goal):
    """List the sums of two rows that may come behind rows and lead to goal."""
    all_sums = []
    for one in rows:
        all_sums.extend([added(one, other) for other in rows])
    # A sum's total is above those of its two rows. So, totals ahead, the rows can be made in rising order,
    # and one below the last need not be made any more.
    return [row for row in sorted(set(all_sums)) if row > rows[-1] and fits_in(row, goal)]


def added(one, other):
    """Add two rows place by place."""
    return tuple([x + y for x, y in zip(one, other)])


def fits_in(row, goal):
    """Tell whether no number of row is above the goal's at its place: no sum makes a number less again."""
    return all([x <= y for x, y in zip(row, goal)])


def sums_and_differences(there):
    """List the sums of two numbers of there, and the differences to a lesser one, that are not there yet."""
    found = []
    for one in there:
        found.extend([one + other for other in there])
        found.extend([one - other for other in there if one > other])
    # None is too great to be of use: a difference may bring it down again.
    return [number for number in sorted(set(found)) if number not in there]
