import unittest

from calling import BEGINS, BEST, ask, problem

ONE = problem(1, [[0, 5, 1]], [1])


class Begins(unittest.TestCase):
    def test_answers_0(self):
        self.assertEqual(ask(BEGINS), [[0]])

    def test_answers_0_each_time(self):
        self.assertEqual(ask(BEGINS, BEGINS, ONE, BEGINS), [[0], [0], [0], [0]])

    def test_best_behind_it_is_refused(self):
        self.assertEqual(ask(BEGINS, BEST), [[0], [-4]])

    def test_at_the_beginning_there_is_no_problem(self):
        self.assertEqual(ask(BEST), [[-4]])

    def test_a_problem_before_it_is_gone(self):
        self.assertEqual(ask(ONE, BEST, BEGINS, BEST), [[0], [0, 2, 5, 1, 5, 1], [0], [-4]])

    def test_a_problem_behind_it_counts(self):
        other = problem(1, [[0, 7, 1]], [1])
        told = ask(ONE, BEGINS, other, BEST)
        self.assertEqual(told, [[0], [0], [0], [0, 2, 7, 1, 7, 1]])

    def test_a_refused_problem_behind_it_brings_none_back(self):
        self.assertEqual(ask(ONE, BEGINS, problem(0, [], []), BEST), [[0], [0], [-1], [-4]])


if __name__ == "__main__":
    unittest.main()
