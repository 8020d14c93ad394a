import random
import signal
import unittest
from itertools import permutations, product

import reference
from calling import BEGINS, BEST, ask, best, problem

BOUND = 1000000000


class NoProblem(unittest.TestCase):
    def test_refused_without_a_problem(self):
        self.assertEqual(ask(BEST, BEST, BEGINS, BEST), [[-4], [-4], [0], [-4]])

    def test_refused_behind_a_refused_problem(self):
        self.assertEqual(ask(problem(1, [[3, 1, 1]], [1]), BEST), [[-1], [-4]])


class NoAmountsFit(unittest.TestCase):
    def test_at_most_below_0(self):
        self.assertEqual(best(1, [[0, -1, 1]], [1]), [0])
        self.assertEqual(best(4, [[0, -1, 1, 2, 3, 4]], [0, 0, 0, 0]), [0])

    def test_at_least_above_what_there_can_be(self):
        self.assertEqual(best(1, [[2, 1, -1]], [1]), [0])

    def test_two_against_each_other(self):
        self.assertEqual(best(2, [[0, 3, 1, 1], [2, 4, 1, 1]], [1, 1]), [0])
        self.assertEqual(best(2, [[1, 3, 1, 1], [1, 4, 1, 1]], [1, 1]), [0])
        self.assertEqual(best(2, [[1, 1, 1, -1], [1, 1, -1, 1]], [1, 1]), [0])

    def test_missed_by_a_hair(self):
        # Both amounts are 1 / (2 * BOUND - 1).
        conditions = [[1, 1, BOUND, BOUND - 1], [1, 1, BOUND - 1, BOUND]]
        for kind, number, outcome in ((0, BOUND, 0), (2, BOUND, 2), (0, BOUND - 1, 2), (2, BOUND - 1, 0)):
            with self.subTest(kind=kind, number=number):
                told = best(2, conditions + [[kind, 1, number, number]], [1, 0])
                self.assertEqual(told[0], outcome)

    def test_told_ahead_of_a_sum_without_a_limit(self):
        self.assertEqual(best(2, [[0, -1, 1, 0]], [0, 1]), [0])


class NoLimit(unittest.TestCase):
    def test_no_conditions(self):
        self.assertEqual(best(1, [], [1]), [1])
        self.assertEqual(best(4, [], [-5, -5, -5, 1]), [1])

    def test_at_least(self):
        self.assertEqual(best(1, [[2, 5, 1]], [1]), [1])

    def test_one_amount_is_free(self):
        self.assertEqual(best(2, [[0, 5, 1, 0]], [1, 1]), [1])

    def test_two_rise_together(self):
        self.assertEqual(best(2, [[1, 0, 1, -1]], [3, -2]), [1])
        self.assertEqual(best(2, [[0, 1, 1, -1], [0, 1, -1, 1]], [1, 0]), [1])

    def test_amounts_without_a_limit_whose_sum_has_one(self):
        self.assertEqual(best(2, [[1, 0, 1, -1]], [2, -2]), [2, 0, 1, 0, 1, 0, 1])
        self.assertEqual(best(2, [[1, 0, 1, -1]], [2, -3]), [2, 0, 1, 0, 1, 0, 1])
        self.assertEqual(best(2, [[0, 5, 1, -1]], [1, -1]), [2, 5, 1, 5, 1, 0, 1])


class Found(unittest.TestCase):
    def test_a_known_one(self):
        conditions = [[0, 4, 1, 0], [0, 12, 0, 2], [0, 18, 3, 2]]
        self.assertEqual(best(2, conditions, [3, 5]), [2, 36, 1, 2, 1, 6, 1])

    def test_fractions_in_least_terms(self):
        told = best(2, [[0, 4, 2, 3], [0, 3, 5, 1]], [1, 1])
        self.assertEqual(told, [2, 19, 13, 5, 13, 14, 13])
        self.assertEqual(best(1, [[0, 6, 4]], [2]), [2, 3, 1, 3, 2])
        self.assertEqual(best(1, [[0, 600, 400]], [10]), [2, 15, 1, 3, 2])
        self.assertEqual(best(1, [[1, -6, -4]], [-3]), [2, -9, 2, 3, 2])

    def test_0_is_0_1(self):
        self.assertEqual(best(1, [[0, 0, 7]], [3]), [2, 0, 1, 0, 1])
        told = best(3, [[1, 7, 3, 0, 0], [0, 0, 0, 5, 5]], [0, 1, 1])
        self.assertEqual(told, [2, 0, 1, 7, 3, 0, 1, 0, 1])

    def test_a_sum_below_0(self):
        self.assertEqual(best(2, [[2, 7, 2, 3]], [-1, -1]), [2, -7, 3, 0, 1, 7, 3])

    def test_each_kind_by_itself(self):
        self.assertEqual(best(1, [[0, 7, 2]], [1]), [2, 7, 2, 7, 2])
        self.assertEqual(best(1, [[0, 7, 2]], [-1]), [2, 0, 1, 0, 1])
        self.assertEqual(best(1, [[1, 7, 2]], [1]), [2, 7, 2, 7, 2])
        self.assertEqual(best(1, [[1, 7, 2]], [-1]), [2, -7, 2, 7, 2])
        self.assertEqual(best(1, [[2, 7, 2]], [-1]), [2, -7, 2, 7, 2])
        self.assertEqual(best(1, [[2, 7, 2]], [1]), [1])

    def test_the_three_kinds_together(self):
        conditions = [[0, 10, 1, 1, 1], [1, 4, 1, -1, 0], [2, 3, 0, 0, 2]]
        self.assertEqual(best(3, conditions, [2, 3, 1]), [2, 83, 4, 25, 4, 9, 4, 3, 2])

    def test_no_conditions(self):
        self.assertEqual(best(1, [], [-1]), [2, 0, 1, 0, 1])
        self.assertEqual(best(4, [], [0, -1, 0, -2]), [2] + [0, 1] * 5)

    def test_what_is_said_twice(self):
        for kind in (0, 1):
            once = [kind, 4, 2, 3]
            told = [2, 2, 1, 2, 1, 0, 1]
            self.assertEqual(best(2, [once], [1, 1]), told)
            self.assertEqual(best(2, [once] * 2, [1, 1]), told)
            self.assertEqual(best(2, [once] * 8, [1, 1]), told)
            self.assertEqual(best(2, [once, [kind, 8, 4, 6]], [1, 1]), told)
        self.assertEqual(best(2, [[2, 4, 2, 3]] * 3, [-1, -1]), [2, -4, 3, 0, 1, 4, 3])
        self.assertEqual(best(2, [[0, 4, 2, 3], [2, 4, 2, 3]], [1, 1]), [2, 2, 1, 2, 1, 0, 1])
        self.assertEqual(best(2, [[1, 4, 2, 3], [1, -4, -2, -3]], [1, 1]), [2, 2, 1, 2, 1, 0, 1])

    def test_zeros_alone(self):
        ceiling = [0, 3, 1, 1]
        told = [2, 3, 1, 0, 1, 3, 1]
        for kind, limit in ((0, 0), (0, 1), (1, 0), (2, 0), (2, -1)):
            with self.subTest(kind=kind, limit=limit):
                self.assertEqual(best(2, [[kind, limit, 0, 0], ceiling], [1, 1]), told)
                self.assertEqual(best(2, [ceiling, [kind, limit, 0, 0]], [1, 1]), told)
        for kind, limit in ((0, -1), (1, 1), (1, -1), (2, 1)):
            with self.subTest(kind=kind, limit=limit):
                self.assertEqual(best(2, [[kind, limit, 0, 0], ceiling], [1, 1]), [0])
                self.assertEqual(best(2, [ceiling, [kind, limit, 0, 0]], [1, 1]), [0])

    def test_limits_below_0(self):
        self.assertEqual(best(2, [[0, -3, -1, -2]], [-1, -1]), [2, -3, 2, 0, 1, 3, 2])
        self.assertEqual(best(2, [[0, -3, 1, -2], [0, 5, 0, 1]], [1, 0]), [2, 7, 1, 7, 1, 5, 1])
        self.assertEqual(best(2, [[1, -3, 1, -2]], [0, -1]), [2, -3, 2, 0, 1, 3, 2])
        self.assertEqual(best(2, [[2, -3, -1, -2]], [1, 1]), [2, 3, 1, 3, 1, 0, 1])

    def test_a_sum_of_zeros(self):
        self.assertEqual(best(2, [], [0, 0]), [2, 0, 1, 0, 1, 0, 1])
        self.assertEqual(best(2, [[2, 5, 1, 2]], [0, 0]), [2, 0, 1, 0, 1, 5, 2])
        self.assertEqual(best(2, [[2, 5, 1, 0], [0, 9, 1, 1]], [0, 0]), [2, 0, 1, 5, 1, 0, 1])


class ComesToAnEnd(unittest.TestCase):
    """Many corners lie on one point here: a careless walk goes round and round there."""

    def setUp(self):
        signal.signal(signal.SIGALRM, self.too_long)
        signal.alarm(60)
        self.addCleanup(signal.alarm, 0)

    def too_long(self, number, frame):
        raise AssertionError("it comes to no end")

    def check(self, conditions, goal, expected):
        self.assertEqual(reference.best(len(goal), conditions, goal), expected)
        self.assertEqual(best(len(goal), conditions, goal), expected)

    def test_the_known_one(self):
        conditions = [[0, 0, 1, -32, -4, 36], [0, 0, 1, -24, -1, 6], [0, 1, 0, 0, 1, 0]]
        self.check(conditions, [3, -80, 2, -24], [2, 5, 1, 1, 1, 0, 1, 1, 1, 0, 1])

    def test_all_limits_0(self):
        conditions = [
            [0, 0, -2, -13, 10, 4], [0, 0, -8, -6, -5, 5], [0, 0, 13, -14, -13, 7], [0, 0, -14, 17, -1, 13],
            [0, 0, 13, -20, -11, -7], [0, 0, 5, 10, -14, -12], [0, 0, 19, -13, 16, -2]]
        self.check(conditions, [1, -3, -12, 15], [2, 0, 1, 0, 1, 0, 1, 0, 1, 0, 1])
        conditions = [
            [0, 0, -8, -6, 10, 1], [0, 0, -17, 13, 4, 3], [0, 0, 11, -8, -16, -19],
            [0, 0, -16, 15, -19, -10], [0, 0, -3, 8, -6, -16], [0, 0, -10, 6, 9, 0]]
        self.check(conditions, [20, -3, 9, -7], [1])

    def test_to_the_first_amounts_that_fit(self):
        conditions = [
            [0, -1, -2, -7, 4, 8], [2, 0, 8, -3, 3, -1], [2, 1, 3, 3, -5, -1], [0, -1, -4, 6, 1, -3],
            [2, 0, 1, 0, 5, 6], [2, -1, 8, 2, -6, -8], [2, 1, -5, 5, -1, 9]]
        self.check(conditions, [0, 0, 0, 0], [2, 0, 1, 199, 415, 111, 415, 0, 1, 19, 83])
        conditions = [
            [0, 0, -2, -4, -9, 5], [2, 1, 0, 8, -3, 1], [0, 0, 3, -4, -7, 5], [0, 0, -6, -3, 2, 4],
            [2, 1, 5, -4, 3, -8], [2, -1, 2, 7, -2, 6], [0, -1, 1, 3, -4, -9]]
        self.check(conditions, [0, 0, 0, 0], [2, 0, 1, 0, 1, 2, 1, 3, 1, 0, 1])


class Several(unittest.TestCase):
    def test_the_first_amount_is_least(self):
        self.assertEqual(best(2, [[0, 3, 1, 1]], [1, 1]), [2, 3, 1, 0, 1, 3, 1])
        told = best(4, [[0, 3, 1, 1, 1, 1]], [1, 1, 1, 1])
        self.assertEqual(told, [2, 3, 1, 0, 1, 0, 1, 0, 1, 3, 1])

    def test_then_the_second_and_the_third(self):
        conditions = [[0, 3, 1, 1, 1], [0, 2, 0, 0, 1]]
        self.assertEqual(best(3, conditions, [1, 1, 1]), [2, 3, 1, 0, 1, 1, 1, 2, 1])
        conditions = [[0, 9, 1, 1, 1, 1], [0, 5, 0, 0, 0, 1], [0, 2, 0, 0, 1, 0]]
        told = best(4, conditions, [1, 1, 1, 1])
        self.assertEqual(told, [2, 9, 1, 0, 1, 2, 1, 2, 1, 5, 1])

    def test_the_first_goes_ahead_of_all_others(self):
        # The first could be 1 with the second at 0; it is 0, though the second has to be 1000.
        conditions = [[1, 1000, 1000, 1]]
        self.assertEqual(best(2, conditions, [0, 0]), [2, 0, 1, 0, 1, 1000, 1])

    def test_the_order_of_the_amounts(self):
        self.assertEqual(best(2, [[0, 6, 2, 3]], [2, 3]), [2, 6, 1, 0, 1, 2, 1])
        self.assertEqual(best(2, [[0, 6, 3, 2]], [3, 2]), [2, 6, 1, 0, 1, 3, 1])

    def test_several_without_an_end(self):
        self.assertEqual(best(2, [[0, 2, 1, -1]], [0, 0]), [2, 0, 1, 0, 1, 0, 1])
        self.assertEqual(best(3, [[2, 2, 1, 1, 1]], [-1, 0, 0]), [2, 0, 1, 0, 1, 0, 1, 2, 1])

    def test_the_last_amount_is_least_too(self):
        # All bests have the first amount at 4; the second goes from 1 to 4 there.
        floor, roof, wall = [2, 1, 0, 1], [0, 0, -1, 1], [0, 4, 1, 0]
        for conditions in permutations([floor, roof, wall]):
            with self.subTest(conditions=conditions):
                self.assertEqual(best(2, list(conditions), [1, 0]), [2, 4, 1, 4, 1, 1, 1])

    def test_an_amount_that_is_not_in_the_sum(self):
        conditions = [[0, 4, 1, 0], [0, 9, 0, 1]]
        self.assertEqual(best(2, conditions, [1, 0]), [2, 4, 1, 4, 1, 0, 1])
        self.assertEqual(best(2, conditions, [0, 1]), [2, 9, 1, 0, 1, 9, 1])


class Large(unittest.TestCase):
    def test_almost_the_same_lines(self):
        conditions = [[1, 1, BOUND - 1, BOUND], [1, 1, BOUND, BOUND - 1]]
        lower = 2 * BOUND - 1
        self.assertEqual(best(2, conditions, [1, 1]), [2, 2, lower, 1, lower, 1, lower])

    def test_a_chain_of_four_with_eight_conditions(self):
        conditions = [
            [1, 1, BOUND, 0, 0, 0], [1, 0, 1, -BOUND, 0, 0],
            [1, 0, 0, 1, -BOUND, 0], [1, 0, 0, 0, 1, -BOUND],
            [0, BOUND, BOUND, BOUND, BOUND, BOUND], [2, -BOUND, -BOUND, -BOUND, -BOUND, -BOUND],
            [0, BOUND, -BOUND, BOUND, -BOUND, BOUND], [2, -BOUND, BOUND, -BOUND, BOUND, -BOUND]]
        told = best(4, conditions, [1, 1, 1, 1])
        amounts = [1, BOUND, 1, BOUND ** 2, 1, BOUND ** 3, 1, BOUND ** 4]
        self.assertEqual(told, [2, BOUND ** 3 + BOUND ** 2 + BOUND + 1, BOUND ** 4] + amounts)

    def test_as_the_reference_at_the_bounds(self):
        source = random.Random(4)
        for kinds in ((0,), (0, 2), (0, 0, 0, 1, 2), (1, 0, 0)):
            for turn in range(6):
                conditions = [
                    [source.choice(kinds), source.choice((0, 1, -1, 1)) * (BOUND - source.randint(0, 3))]
                    + [source.choice((1, 1, -1)) * (BOUND - source.randint(0, 9)) for _ in range(4)]
                    for _ in range(8)]
                goal = [BOUND - source.randint(0, 9) for _ in range(4)]
                with self.subTest(conditions=conditions, goal=goal):
                    self.assertEqual(best(4, conditions, goal), reference.best(4, conditions, goal))


class AsTheReference(unittest.TestCase):
    def test_every_small_one_of_one_amount(self):
        conditions = [list(c) for c in product((0, 1, 2), (-1, 0, 2), (-2, 0, 1))]
        for first, second in product(conditions, conditions):
            for number in (-1, 0, 1):
                told = best(1, [first, second], [number])
                self.assertEqual(told, reference.best(1, [first, second], [number]), (first, second, number))

    def test_small_ones(self):
        source = random.Random(7)
        for turn in range(1500):
            n = source.randint(1, 4)
            kinds = source.choice(((0,), (0, 2), (0, 1, 2), (1, 2)))
            reach = source.choice((1, 3, 20))
            conditions = [
                [source.choice(kinds), source.randint(-reach, 3 * reach)]
                + [source.randint(source.choice((-reach, 0)), reach) for _ in range(n)]
                for _ in range(source.randint(0, 5))]
            if conditions and turn % 5 == 0:
                goal = list(source.choice(conditions)[2:])
            elif turn % 5 == 1:
                goal = [source.randint(-1, 1) * (i == turn % n) for i in range(n)]
            else:
                goal = [source.randint(-reach, reach) for _ in range(n)]
            told = best(n, conditions, goal)
            self.assertEqual(told, reference.best(n, conditions, goal), (n, conditions, goal))


if __name__ == "__main__":
    unittest.main()
