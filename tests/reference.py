"""The best once more, in another way: every corner is worked out, and the best of them taken."""

from fractions import Fraction
from itertools import combinations


def solve(rows):
    """The one point on all n rows (numbers, limit) together, or None."""
    n = len(rows)
    table = [[Fraction(x) for x in numbers] + [Fraction(limit)] for numbers, limit in rows]
    for column in range(n):
        pivot = next((r for r in range(column, n) if table[r][column]), None)
        if pivot is None:
            return None
        table[column], table[pivot] = table[pivot], table[column]
        top = [x / table[column][column] for x in table[column]]
        table[column] = top
        for r in range(n):
            if r != column and table[r][column]:
                factor = table[r][column]
                table[r] = [x - factor * y for x, y in zip(table[r], top)]
    return [row[n] for row in table]


def product(numbers, point):
    return sum(a * x for a, x in zip(numbers, point))


def fits(conditions, point):
    if min(point) < 0:
        return False
    for kind, limit, *numbers in conditions:
        total = product(numbers, point)
        if (kind == 0 and total > limit) or (kind == 1 and total != limit) or (kind == 2 and total < limit):
            return False
    return True


def corners(n, conditions):
    lines = [(numbers, limit) for _, limit, *numbers in conditions]
    lines += [([int(i == j) for j in range(n)], 0) for i in range(n)]
    for chosen in combinations(lines, n):
        point = solve(chosen)
        if point is not None and fits(conditions, point):
            yield point


def rises_for_ever(n, conditions, goal):
    """Is there a direction, its amounts 1 in all, that breaks no condition and lifts the sum?"""
    directions = [[kind, 0, *numbers] for kind, _, *numbers in conditions] + [[1, 1] + [1] * n]
    return any(product(goal, point) > 0 for point in corners(n, directions))


def best(n, conditions, goal):
    points = list(corners(n, conditions))
    if not points:
        return [0]
    if rises_for_ever(n, conditions, goal):
        return [1]
    point = max(points, key=lambda p: (product(goal, p), [-x for x in p]))
    told = [2]
    for value in [product(goal, point)] + point:
        told += [Fraction(value).numerator, Fraction(value).denominator]
    return told
