"""The calls once more, in another way: every corner is worked out, and the best of them taken."""

from fractions import Fraction
from itertools import combinations


def solve(rows):
    """The one point on all n rows (numbers, limit) together, or None."""
    n = len(rows)
    table = [[Fraction(x) for x in numbers] + [Fraction(limit)] for numbers, limit in rows]
    for column in range(n):
        pivot = next((r for r in range(column, n) if table[r][column]), None)
        if pivot is None:
            return None
        table[column], table[pivot] = table[pivot], table[column]
        top = [x / table[column][column] for x in table[column]]
        table[column] = top
        for r in range(n):
            if r != column and table[r][column]:
                factor = table[r][column]
                table[r] = [x - factor * y for x, y in zip(table[r], top)]
    return [row[n] for row in table]


def product(numbers, point):
    return sum(a * x for a, x in zip(numbers, point))


def fits(conditions, point):
    if min(point) < 0:
        return False
    for kind, limit, *numbers in conditions:
        total = product(numbers, point)
        if (kind == 0 and total > limit) or (kind == 1 and total != limit) or (kind == 2 and total < limit):
            return False
    return True


def corners(n, conditions):
    lines = [(numbers, limit) for _, limit, *numbers in conditions]
    lines += [([int(i == j) for j in range(n)], 0) for i in range(n)]
    for chosen in combinations(lines, n):
        point = solve(chosen)
        if point is not None and fits(conditions, point):
            yield point


def rises_for_ever(n, conditions, goal):
    """Is there a direction, its amounts 1 in all, that breaks no condition and lifts the sum?"""
    directions = [[kind, 0, *numbers] for kind, _, *numbers in conditions] + [[1, 1] + [1] * n]
    return any(product(goal, point) > 0 for point in corners(n, directions))


def kind_and_point(n, conditions, goal):
    points = list(corners(n, conditions))
    if not points:
        return 0, None
    if rises_for_ever(n, conditions, goal):
        return 1, None
    return 2, max(points, key=lambda p: (product(goal, p), [-x for x in p]))


def told(values):
    return [number for value in values for number in (Fraction(value).numerator, Fraction(value).denominator)]


def best(n, conditions, goal):
    kind, found = kind_and_point(n, conditions, goal)
    return [2] + told([product(goal, found)] + found) if kind == 2 else [kind]


def tight(n, conditions, goal):
    kind, found = kind_and_point(n, conditions, goal)
    if kind != 2:
        return [-3]
    which = [i for i, (_, limit, *numbers) in enumerate(conditions) if product(numbers, found) == limit]
    return [len(which)] + which


def with_limit(conditions, i, limit):
    return [[kind, limit if j == i else old, *numbers] for j, (kind, old, *numbers) in enumerate(conditions)]


def table(n, conditions, goal, i, start, step, k):
    # A kind, or a kind and the sum's two numbers; the amounts behind them are left out.
    return [k] + [number for turn in range(k)
                  for number in best(n, with_limit(conditions, i, start + turn * step), goal)[:3]]


def point(conditions, goal, uppers, lower):
    amounts = [Fraction(upper, lower) for upper in uppers]
    return [int(fits(conditions, amounts))] + told([product(goal, amounts)])
