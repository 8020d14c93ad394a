import random
import unittest

import reference
from calling import BEGINS, BEST, TIGHT, ask, behind, point, problem

BOUND = 1000000000
FAR = 1000 * BOUND
REFUSED = problem(1, [[3, 1, 1]], [1])
KEPT = problem(2, [[0, 5, 1, 1]], [2, 1])
KEPT_BEST = [0, 2, 10, 1, 5, 1, 0, 1]


def told_of(conditions, goal, uppers, lower):
    return behind(problem(len(goal), conditions, goal), point(uppers, lower))


class Refused(unittest.TestCase):
    def check_refused(self, uppers, lower):
        told = ask(KEPT, point(uppers, lower), BEST, TIGHT, point([1, 2], 1))
        self.assertEqual(told, [[0], [-1], KEPT_BEST, [1, 0], [1, 4, 1]])

    def test_without_a_problem(self):
        ordinary = point([1, 2], 1)
        self.assertEqual(ask(ordinary, BEGINS, ordinary), [[-4], [0], [-4]])
        self.assertEqual(ask(REFUSED, ordinary), [[-1], [-4]])
        self.assertEqual(ask(KEPT, BEGINS, ordinary), [[0], [0], [-4]])

    def test_without_a_problem_goes_ahead_of_the_others(self):
        for call in (point([], 1), point([1] * 40, 1), point([1, 2], 0), point([FAR, 1], 1), point([], -FAR)):
            with self.subTest(call=call):
                self.assertEqual(ask(call), [[-4]])
                self.assertEqual(ask(KEPT, BEGINS, call), [[0], [0], [-4]])

    def test_not_n_uppers(self):
        for uppers in ([], [1], [1, 1, 1], [0, 0, 0], [0] * 40):
            with self.subTest(uppers=uppers):
                self.check_refused(uppers, 1)
        for n in (1, 2, 3, 4):
            posed = problem(n, [], [1] * n)
            for count in range(7):
                with self.subTest(n=n, count=count):
                    told = behind(posed, point([0] * count, 1))
                    self.assertEqual(told, [1, 0, 1] if count == n else [-1])

    def test_the_lower(self):
        for lower in (0, -1, -2, -BOUND, -BOUND - 1, -FAR, BOUND + 1, FAR):
            with self.subTest(lower=lower):
                self.check_refused([1, 1], lower)
                self.check_refused([0, 0], lower)
        self.assertEqual(behind(KEPT, point([1, 1], 1)), [1, 3, 1])
        self.assertEqual(behind(KEPT, point([1, 1], BOUND)), [1, 3, BOUND])

    def test_the_uppers(self):
        for upper in (-BOUND - 1, BOUND + 1, -FAR, FAR):
            with self.subTest(upper=upper):
                self.check_refused([upper, 0], 1)
                self.check_refused([0, upper], 1)
                self.check_refused([upper, -upper], BOUND)
        self.assertEqual(behind(KEPT, point([BOUND, 0], 1)), [0, 2 * BOUND, 1])
        self.assertEqual(behind(KEPT, point([0, BOUND], BOUND)), [1, 1, 1])
        self.assertEqual(behind(KEPT, point([-BOUND, 0], 1)), [0, -2 * BOUND, 1])
        self.assertEqual(behind(KEPT, point([0, -BOUND], 1)), [0, -BOUND, 1])

    def test_any_one_of_four_uppers(self):
        within = ((BOUND, [1, BOUND, 1]), (-BOUND, [0, -BOUND, 1]))
        beyond = ((BOUND + 1, [-1]), (-BOUND - 1, [-1]))
        for place in range(4):
            for upper, told in within + beyond:
                with self.subTest(place=place, upper=upper):
                    uppers = [0, 0, 0, 0]
                    uppers[place] = upper
                    self.assertEqual(told_of([], [1, 1, 1, 1], uppers, 1), told)

    def test_a_refused_problem_leaves_the_one_that_was(self):
        self.assertEqual(ask(KEPT, REFUSED, point([1, 2], 1)), [[0], [-1], [1, 4, 1]])


class Fits(unittest.TestCase):
    def test_on_a_limit_and_beside_it(self):
        for kind, below, on, above in ((0, 1, 1, 0), (1, 0, 1, 0), (2, 0, 1, 1)):
            with self.subTest(kind=kind):
                conditions = [[kind, 7, 2, 1]]
                self.assertEqual(told_of(conditions, [1, 1], [3, 0], 1), [below, 3, 1])
                self.assertEqual(told_of(conditions, [1, 1], [3, 1], 1), [on, 4, 1])
                self.assertEqual(told_of(conditions, [1, 1], [3, 2], 1), [above, 5, 1])

    def test_with_a_lower_above_1(self):
        for kind, below, on, above in ((0, 1, 1, 0), (1, 0, 1, 0), (2, 0, 1, 1)):
            with self.subTest(kind=kind):
                conditions = [[kind, 7, 2]]
                self.assertEqual(told_of(conditions, [1], [699], 200), [below, 699, 200])
                self.assertEqual(told_of(conditions, [1], [700], 200), [on, 7, 2])
                self.assertEqual(told_of(conditions, [1], [701], 200), [above, 701, 200])

    def test_beside_it_by_a_hair(self):
        for kind, below, on, above in ((0, 1, 1, 0), (1, 0, 1, 0), (2, 0, 1, 1)):
            with self.subTest(kind=kind):
                conditions = [[kind, 1, 1]]
                self.assertEqual(told_of(conditions, [1], [BOUND - 1], BOUND), [below, BOUND - 1, BOUND])
                self.assertEqual(told_of(conditions, [1], [BOUND], BOUND), [on, 1, 1])
                self.assertEqual(told_of(conditions, [1], [BOUND], BOUND - 1), [above, BOUND, BOUND - 1])

    def test_a_limit_below_0(self):
        for kind, below, on, above in ((0, 1, 1, 0), (1, 0, 1, 0), (2, 0, 1, 1)):
            with self.subTest(kind=kind):
                conditions = [[kind, -3, -2]]
                self.assertEqual(told_of(conditions, [1], [5], 3), [below, 5, 3])
                self.assertEqual(told_of(conditions, [1], [3], 2), [on, 3, 2])
                self.assertEqual(told_of(conditions, [1], [4], 3), [above, 4, 3])

    def test_all_conditions_have_to_hold(self):
        conditions = [[0, 4, 1, 0], [2, 2, 3, 2], [1, 5, 1, 1]]
        self.assertEqual(told_of(conditions, [1, 3], [8, 2], 2), [1, 7, 1])
        self.assertEqual(told_of(conditions, [1, 3], [9, 1], 2), [0, 6, 1])
        self.assertEqual(told_of(conditions, [1, 3], [8, 1], 2), [0, 11, 2])
        self.assertEqual(told_of(conditions, [1, 3], [0, 0], 1), [0, 0, 1])
        for place in range(8):
            eight = [[0, 4, 1]] * 8
            eight[place] = [0, 3, 1]
            with self.subTest(place=place):
                self.assertEqual(told_of(eight, [1], [3], 1), [1, 3, 1])
                self.assertEqual(told_of(eight, [1], [4], 1), [0, 4, 1])

    def test_amounts_below_0(self):
        self.assertEqual(told_of([], [1], [-1], 1), [0, -1, 1])
        self.assertEqual(told_of([], [1], [-1], BOUND), [0, -1, BOUND])
        self.assertEqual(told_of([[0, 5, 1, 1]], [1, 1], [-1, 3], 1), [0, 2, 1])
        self.assertEqual(told_of([[1, 2, 1, 1]], [1, 1], [3, -1], 1), [0, 2, 1])
        for place in range(4):
            with self.subTest(place=place):
                uppers = [2, 2, 2, 2]
                uppers[place] = -1
                self.assertEqual(told_of([[0, 99, 1, 1, 1, 1]], [1, 1, 1, 1], uppers, 3), [0, 5, 3])

    def test_all_at_0(self):
        self.assertEqual(told_of([], [1, 1], [0, 0], 7), [1, 0, 1])
        self.assertEqual(told_of([[0, 0, 1, 1], [1, 0, 1, 2], [2, 0, 3, 4]], [5, 6], [0, 0], 7), [1, 0, 1])
        self.assertEqual(told_of([[2, 1, 1, 1]], [1, 1], [0, 0], 7), [0, 0, 1])

    def test_zeros_alone(self):
        for kind, limit, fit in ((0, 0, 1), (0, -1, 0), (1, 0, 1), (1, 1, 0), (1, -1, 0), (2, 0, 1), (2, 1, 0)):
            with self.subTest(kind=kind, limit=limit):
                self.assertEqual(told_of([[kind, limit, 0]], [1], [2], 3), [fit, 2, 3])

    def test_whatever_the_best_is(self):
        self.assertEqual(told_of([[0, -1, 1]], [1], [1], 1), [0, 1, 1])
        self.assertEqual(told_of([[2, 5, 1]], [1], [BOUND], 1), [1, BOUND, 1])
        self.assertEqual(told_of([[2, 5, 1]], [1], [4], 1), [0, 4, 1])


class Sum(unittest.TestCase):
    def test_in_least_terms(self):
        for uppers, lower, upper, below in (
                ([6], 4, 3, 2), ([4], 6, 2, 3), ([BOUND], BOUND, 1, 1), ([-6], 4, -3, 2), ([12], 4, 3, 1),
                ([600000000], BOUND, 3, 5), ([BOUND], 999999999, BOUND, 999999999)):
            with self.subTest(uppers=uppers, lower=lower):
                self.assertEqual(told_of([], [1], uppers, lower)[1:], [upper, below])

    def test_the_numbers_of_the_sum_count(self):
        self.assertEqual(told_of([], [3, -4, 0, 7], [5, 2, 9, 1], 6), [1, 7, 3])
        self.assertEqual(told_of([[0, 99, 1, 1]], [-1, -2], [1, 2], 1), [1, -5, 1])
        self.assertEqual(told_of([], [-1], [-3], 6), [0, 1, 2])

    def test_a_fraction_that_is_0(self):
        self.assertEqual(told_of([], [0, 0], [5, 7], 3), [1, 0, 1])
        self.assertEqual(told_of([], [7, -5], [5, 7], 3), [1, 0, 1])
        self.assertEqual(told_of([], [1, 1], [-5, 5], BOUND), [0, 0, 1])
        self.assertEqual(told_of([[2, 1, 1]], [9], [0], 8), [0, 0, 1])

    def test_large(self):
        told = told_of([], [BOUND] * 4, [BOUND] * 4, BOUND - 1)
        self.assertEqual(told, [1, 4 * BOUND * BOUND, BOUND - 1])
        told = told_of([[0, BOUND, BOUND, BOUND]], [-BOUND, -BOUND], [BOUND, BOUND], 1)
        self.assertEqual(told, [0, -2 * BOUND * BOUND, 1])


class Both(unittest.TestCase):
    def test_the_problem_stays(self):
        told = ask(KEPT, point([1, 2], 3), BEST, point([9, 9], 1), TIGHT, point([1, 2], 3))
        self.assertEqual(told, [[0], [1, 4, 3], KEPT_BEST, [0, 27, 1], [1, 0], [1, 4, 3]])

    def test_as_the_reference(self):
        source = random.Random(6)
        for turn in range(2000):
            n = source.randint(1, 4)
            reach = source.choice((2, 9, BOUND))
            lower = source.choice((1, 2, 6, source.randint(1, reach)))
            uppers = [source.randint(source.choice((0, 0, 0, -2)), min(3 * lower, BOUND)) for _ in range(n)]
            conditions = []
            for _ in range(source.randint(0, 3)):
                numbers = [source.randint(-reach, reach) for _ in range(n)]
                on = sum(number * upper for number, upper in zip(numbers, uppers)) // lower
                limit = max(-BOUND, min(BOUND, on + source.choice((-1, 0, 0, 1))))
                conditions.append([source.choice((0, 1, 2)), limit] + numbers)
            goal = [source.randint(-reach, reach) for _ in range(n)]
            expected = reference.point(conditions, goal, uppers, lower)
            self.assertEqual(told_of(conditions, goal, uppers, lower), expected, (conditions, goal, uppers, lower))


if __name__ == "__main__":
    unittest.main()
