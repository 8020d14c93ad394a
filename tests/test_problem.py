import unittest

from calling import BEST, ask, problem

BOUND = 1000000000
KEPT = problem(1, [[0, 5, 1]], [1])
KEPT_BEST = [0, 2, 5, 1, 5, 1]


class Problem(unittest.TestCase):
    def check_taken(self, n, conditions, goal):
        told = ask(problem(n, conditions, goal), BEST)
        self.assertEqual(told[0], [0])
        self.assertEqual(told[1][0], 0)

    def check_refused(self, n, conditions, goal):
        refused = problem(n, conditions, goal)
        self.assertEqual(ask(refused, BEST), [[-1], [-4]])
        self.assertEqual(ask(KEPT, refused, BEST), [[0], [-1], KEPT_BEST])

    def test_n_from_1_to_4(self):
        for n in (1, 2, 3, 4):
            with self.subTest(n=n):
                self.check_taken(n, [[0, 1] + [1] * n], [1] * n)

    def test_n_outside(self):
        for n in (0, 5, 6, 38):
            with self.subTest(n=n):
                self.check_refused(n, [[0, 1] + [1] * n], [1] * n)
                self.check_refused(n, [], [1] * n)

    def test_n_far_outside(self):
        self.check_refused(4294967295, [[0, 1, 1]], [1])
        self.check_refused(BOUND, [], [])

    def test_8_conditions_and_none(self):
        self.check_taken(1, [[0, 1, 1]] * 8, [1])
        self.check_taken(4, [[1, 1, 1, 1, 1, 1]] * 8, [1] * 4)
        self.check_taken(1, [], [1])

    def test_more_than_8_conditions(self):
        for count in (9, 10, 39):
            with self.subTest(count=count):
                self.check_refused(1, [[0, 1, 1]] * count, [1])

    def test_a_condition_with_another_number_of_numbers(self):
        for numbers in ([], [1], [1, 1, 1], [0] * 38):
            with self.subTest(numbers=numbers):
                self.check_refused(2, [[0, 1] + numbers], [1, 1])

    def test_any_one_condition_with_another_number_of_numbers(self):
        for place in range(8):
            for numbers in ([0, 1, 1, 1], [0, 1, 1, 1, 1, 1]):
                with self.subTest(place=place, numbers=numbers):
                    conditions = [[0, 1, 1, 1, 1]] * 8
                    conditions[place] = numbers
                    self.check_refused(3, conditions, [1, 1, 1])

    def test_the_sum_with_another_number_of_numbers(self):
        for goal in ([], [1], [1, 1, 1], [0] * 40):
            with self.subTest(goal=goal):
                self.check_refused(2, [[0, 1, 1, 1]], goal)
                self.check_refused(2, [], goal)

    def test_all_have_another_number_of_numbers_than_n(self):
        self.check_refused(2, [[0, 1, 1]], [1])
        self.check_refused(1, [[0, 1, 1, 1]], [1, 1])

    def test_the_three_kinds(self):
        for kind in (0, 1, 2):
            with self.subTest(kind=kind):
                self.check_taken(1, [[kind, 1, 1]], [-1])

    def test_a_kind_above_2(self):
        for kind in (3, 4, BOUND, BOUND + 1, 4294967295):
            with self.subTest(kind=kind):
                self.check_refused(1, [[kind, 1, 1]], [-1])
                self.check_refused(1, [[0, 1, 1]] * 7 + [[kind, 1, 1]], [-1])

    def test_numbers_at_the_bounds(self):
        for number in (-BOUND, BOUND):
            with self.subTest(number=number):
                self.check_taken(2, [[0, 1, number, 1]], [1, 1])
                self.check_taken(2, [[0, 1, 1, number]], [1, 1])
                self.check_taken(2, [[0, number, 1, 1]], [1, 1])
                self.check_taken(2, [[0, 1, 1, 1]], [number, 1])
                self.check_taken(2, [[0, 1, 1, 1]], [1, number])

    def test_numbers_outside_the_bounds(self):
        for number in (-BOUND - 1, BOUND + 1, -1000 * BOUND, 1000 * BOUND):
            with self.subTest(number=number):
                self.check_refused(2, [[0, 1, number, 1]], [1, 1])
                self.check_refused(2, [[0, 1, 1, number]], [1, 1])
                self.check_refused(2, [[0, number, 1, 1]], [1, 1])
                self.check_refused(2, [[0, 1, 1, 1]], [number, 1])
                self.check_refused(2, [[0, 1, 1, 1]], [1, number])

    def test_a_number_outside_in_the_last_condition(self):
        for kind in (0, 1, 2):
            for far in ([kind, BOUND + 1, 1], [kind, 1, -BOUND - 1]):
                with self.subTest(far=far):
                    self.check_refused(1, [[0, 1, 1]] * 7 + [far], [1])

    def test_it_takes_the_place_of_the_one_before(self):
        told = ask(KEPT, problem(2, [[0, 3, 1, 1]], [1, 2]), BEST, KEPT, BEST)
        self.assertEqual(told, [[0], [0], [0, 2, 6, 1, 0, 1, 3, 1], [0], KEPT_BEST])

    def test_one_that_no_amounts_fit_is_taken_too(self):
        told = ask(KEPT, problem(1, [[0, -1, 1]], [1]), BEST)
        self.assertEqual(told, [[0], [0], [0, 0]])


if __name__ == "__main__":
    unittest.main()
