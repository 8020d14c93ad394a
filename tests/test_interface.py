import contextlib
import io
import unittest

from bestbylines.desk import answers
from calling import BEGINS, BEST, ask, problem

ONE = problem(1, [[0, 5, 2]], [1])
FOUR = problem(4, [[0, 3, 1, 1, 1, 1]], [1, 2, 3, 4])


class Interface(unittest.TestCase):
    def test_how_a_call_is_written(self):
        self.assertEqual(answers([0, 0, 0]), [1, 0])
        self.assertEqual(answers([2, 0, 0]), [1, -4])
        # One amount, one condition: 2 times it is at most 5; the sum is 3 times it.
        self.assertEqual(answers([1, 1, 1, 2, 3, 0, 5, 2, 1, 3]), [1, 0])
        # No conditions: the sum is the only list.
        self.assertEqual(answers([1, 1, 2, 1, 2, 0, -1]), [1, 0])
        # The sum may be an empty list.
        self.assertEqual(answers([1, 1, 1, 1, 0]), [1, -1])

    def test_how_each_outcome_is_written(self):
        self.assertEqual(answers(problem(1, [[0, -1, 1]], [1]) + BEST), [1, 0, 2, 0, 0])
        self.assertEqual(answers(problem(1, [], [1]) + BEST), [1, 0, 2, 0, 1])
        self.assertEqual(answers(ONE + BEST), [1, 0, 6, 0, 2, 5, 2, 5, 2])
        self.assertEqual(answers(FOUR + BEST), [1, 0, 12, 0, 2, 12, 1, 0, 1, 0, 1, 0, 1, 3, 1])

    def test_several_calls_in_one_list(self):
        refused = problem(5, [], [1] * 5)
        calls = BEST + ONE + BEST + BEST + refused + FOUR + BEGINS + BEST
        best_of_one = [6, 0, 2, 5, 2, 5, 2]
        told = [1, -4, 1, 0] + best_of_one + best_of_one + [1, -1, 1, 0, 1, 0, 1, -4]
        self.assertEqual(answers(calls), told)

    def test_a_refused_problem_is_read_to_its_end(self):
        for refused in (problem(0, [], []), problem(1, [[9, 2]] * 39, [0] * 40), problem(7, [[2, 0, 0]], [])):
            self.assertEqual(ask(refused, BEGINS, BEST), [[-1], [0], [-4]])

    def test_400_calls(self):
        told = ask(ONE, *[BEST] * 399)
        self.assertEqual(told, [[0]] + [[0, 2, 5, 2, 5, 2]] * 399)
        crowded = problem(4, [[0, 1 + i, 7, -1, 2 + i, 1] for i in range(8)], [1, 1, 1, -1])
        told = ask(*[crowded, BEST] * 200)
        self.assertEqual(told, told[:2] * 200)

    def test_whole_numbers_alone(self):
        told = answers(ONE + BEST + FOUR + BEST + problem(1, [], [1]) + BEST + BEGINS + BEST)
        self.assertIs(type(told), list)
        self.assertEqual({type(number) for number in told}, {int})

    def test_what_is_handed_in_stays(self):
        calls = BEST + ONE + BEST + FOUR + BEST + problem(9, [[0, 1]], [1]) + BEST
        before = list(calls)
        told = answers(calls)
        self.assertEqual(calls, before)
        told.append(7)
        self.assertEqual(calls, before)

    def test_two_times_know_nothing_of_each_other(self):
        self.assertEqual(answers(ONE), [1, 0])
        self.assertEqual(answers(BEST), [1, -4])
        self.assertEqual(answers(ONE + BEST), answers(ONE + BEST))
        first = answers(FOUR)
        first.append(7)
        self.assertEqual(answers(FOUR), [1, 0])

    def test_prints_nothing(self):
        shown = io.StringIO()
        with contextlib.redirect_stdout(shown), contextlib.redirect_stderr(shown):
            answers(ONE + BEST + BEGINS)
        self.assertEqual(shown.getvalue(), "")


if __name__ == "__main__":
    unittest.main()
