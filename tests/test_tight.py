import random
import unittest

import reference
from calling import BEGINS, BEST, TIGHT, ask, behind, problem

BOUND = 1000000000
REFUSED = problem(1, [[3, 1, 1]], [1])


def tight(n, conditions, goal):
    return behind(problem(n, conditions, goal), TIGHT)


class Refused(unittest.TestCase):
    def test_without_a_problem(self):
        self.assertEqual(ask(TIGHT, TIGHT, BEGINS, TIGHT), [[-4], [-4], [0], [-4]])
        self.assertEqual(ask(REFUSED, TIGHT), [[-1], [-4]])
        self.assertEqual(ask(problem(1, [[0, 5, 1]], [1]), BEGINS, TIGHT), [[0], [0], [-4]])

    def test_no_amounts_fit(self):
        self.assertEqual(tight(1, [[0, -1, 1]], [1]), [-3])
        self.assertEqual(tight(2, [[1, 3, 1, 1], [1, 4, 1, 1]], [0, 0]), [-3])

    def test_the_sum_has_no_limit(self):
        self.assertEqual(tight(1, [], [1]), [-3])
        self.assertEqual(tight(2, [[1, 5, 1, 0], [0, 0, 0, 0]], [1, 1]), [-3])

    def test_without_a_problem_goes_ahead_of_the_best_that_was(self):
        unlimited = problem(1, [], [1])
        self.assertEqual(ask(unlimited, TIGHT, BEGINS, TIGHT), [[0], [-3], [0], [-4]])

    def test_nothing_is_changed(self):
        none_fit = problem(1, [[0, -1, 1]], [1])
        self.assertEqual(ask(none_fit, TIGHT, BEST, TIGHT), [[0], [-3], [0, 0], [-3]])
        unlimited = problem(1, [], [1])
        self.assertEqual(ask(unlimited, TIGHT, BEST, TIGHT), [[0], [-3], [0, 1], [-3]])

    def test_a_refused_problem_leaves_the_one_that_was(self):
        told = ask(problem(1, [[0, 9, 1], [0, 5, 1]], [1]), REFUSED, TIGHT)
        self.assertEqual(told, [[0], [-1], [1, 1]])


class Told(unittest.TestCase):
    def test_none(self):
        self.assertEqual(tight(1, [], [-1]), [0])
        self.assertEqual(tight(1, [[0, 5, 1]], [-1]), [0])
        self.assertEqual(tight(2, [[0, 5, 1, 1], [2, -1, 1, 1]], [0, -1]), [0])

    def test_some(self):
        self.assertEqual(tight(1, [[0, 9, 1], [0, 5, 1], [2, 1, 1], [2, 10, 2]], [1]), [2, 1, 3])
        conditions = [[0, 4, 1, 0], [0, 12, 0, 2], [0, 18, 3, 2]]
        self.assertEqual(tight(2, conditions, [3, 5]), [2, 1, 2])
        conditions = [[0, 4, 1, 0], [2, 2, 3, 2], [1, 5, 1, 1]]
        self.assertEqual(tight(2, conditions, [1, 3]), [1, 2])

    def test_all(self):
        self.assertEqual(tight(1, [[0, 5, 1]], [1]), [1, 0])
        self.assertEqual(tight(1, [[0, 5, 1], [2, 5, 1], [1, 5, 1]], [1]), [3, 0, 1, 2])
        self.assertEqual(tight(1, [[0, 5 * i, i] for i in range(1, 9)], [1]), [8, 0, 1, 2, 3, 4, 5, 6, 7])

    def test_each_kind(self):
        for kind, number in ((0, 1), (1, 1), (1, -1), (2, -1)):
            with self.subTest(kind=kind, number=number):
                self.assertEqual(tight(1, [[kind, 7, 2]], [number]), [1, 0])

    def test_a_condition_stands_twice(self):
        self.assertEqual(tight(1, [[0, 5, 1], [0, 7, 1], [0, 5, 1]], [1]), [2, 0, 2])
        self.assertEqual(tight(1, [[0, 7, 1], [0, 5, 1], [0, 7, 1]], [1]), [1, 1])
        for kind in (0, 1):
            with self.subTest(kind=kind):
                self.assertEqual(tight(2, [[kind, 4, 2, 3]] * 8, [1, 1]), [8, 0, 1, 2, 3, 4, 5, 6, 7])

    def test_said_in_other_words(self):
        conditions = [[0, 5, 1], [0, 10, 2], [2, -5, -1], [1, -15, -3]]
        self.assertEqual(tight(1, conditions, [1]), [4, 0, 1, 2, 3])

    def test_zeros_alone(self):
        conditions = [[0, 0, 0], [0, 1, 0], [2, 0, 0], [2, -1, 0], [1, 0, 0], [0, 5, 1]]
        self.assertEqual(tight(1, conditions, [1]), [4, 0, 2, 4, 5])

    def test_a_best_at_0(self):
        self.assertEqual(tight(2, [[0, 0, 1, 1], [0, 1, 1, 1], [2, 0, 1, 0]], [-1, -1]), [2, 0, 2])

    def test_a_best_in_fractions(self):
        # The first amount is 5/13, the second 14/13.
        conditions = [[0, 4, 2, 3], [0, 3, 5, 1], [0, 5, 13, 0], [0, 6, 13, 0], [2, 14, 0, 13], [2, 13, 0, 13]]
        self.assertEqual(tight(2, conditions, [1, 1]), [4, 0, 1, 2, 4])

    def test_missed_by_a_hair(self):
        # Both amounts are 1 / (2 * BOUND - 1).
        conditions = [
            [0, 1, BOUND - 1, BOUND - 1], [1, 1, BOUND, BOUND - 1], [2, 1, BOUND, BOUND], [1, 1, BOUND - 1, BOUND]]
        self.assertEqual(tight(2, conditions, [1, 0]), [2, 1, 3])

    def test_of_several_bests_the_one_that_is_told(self):
        conditions = [[0, 3, 1, 0], [0, 3, 0, 1], [0, 3, 1, 1]]
        self.assertEqual(tight(2, conditions, [1, 1]), [2, 1, 2])
        conditions = [[0, 9, 1, 1, 1], [0, 5, 0, 0, 1], [0, 4, 0, 1, 0], [2, 0, 1, 0, 0]]
        self.assertEqual(tight(3, conditions, [1, 1, 1]), [4, 0, 1, 2, 3])
        conditions = [[0, 9, 1, 1, 1], [0, 5, 0, 0, 1], [0, 6, 0, 1, 0], [2, 0, 1, 0, 0]]
        self.assertEqual(tight(3, conditions, [1, 1, 1]), [3, 0, 1, 3])

    def test_the_problem_stays(self):
        told = ask(problem(1, [[0, 9, 1], [0, 5, 1]], [1]), TIGHT, BEST, TIGHT)
        self.assertEqual(told, [[0], [1, 1], [0, 2, 5, 1, 5, 1], [1, 1]])

    def test_of_the_newest_problem(self):
        told = ask(problem(1, [[0, 9, 1], [0, 5, 1]], [1]), TIGHT, problem(1, [[0, 5, 1], [0, 9, 1]], [1]), TIGHT)
        self.assertEqual(told, [[0], [1, 1], [0], [1, 0]])

    def test_as_the_reference(self):
        source = random.Random(11)
        for turn in range(500):
            n = source.randint(1, 3)
            reach = source.choice((1, 3, 9))
            conditions = [
                [source.choice((0, 0, 1, 2)), source.randint(-1, 2 * reach)]
                + [source.randint(source.choice((-1, 0)), reach) for _ in range(n)]
                for _ in range(source.randint(0, 4))]
            goal = [source.randint(-reach, reach) for _ in range(n)]
            told = tight(n, conditions, goal)
            self.assertEqual(told, reference.tight(n, conditions, goal), (n, conditions, goal))


if __name__ == "__main__":
    unittest.main()
