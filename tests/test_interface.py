import contextlib
import io
import unittest

from bestbylines.desk import answers
from calling import BEGINS, BEST, TIGHT, ask, point, problem, table

ONE = problem(1, [[0, 5, 2]], [1])
FOUR = problem(4, [[0, 3, 1, 1, 1, 1]], [1, 2, 3, 4])


class Interface(unittest.TestCase):
    def test_how_a_call_is_written(self):
        self.assertEqual(answers([0, 0, 0]), [1, 0])
        self.assertEqual(answers([2, 0, 0]), [1, -4])
        # One amount, one condition: 2 times it is at most 5; the sum is 3 times it.
        self.assertEqual(answers([1, 1, 1, 2, 3, 0, 5, 2, 1, 3]), [1, 0])
        # No conditions: the sum is the only list.
        self.assertEqual(answers([1, 1, 2, 1, 2, 0, -1]), [1, 0])
        # The sum may be an empty list.
        self.assertEqual(answers([1, 1, 1, 1, 0]), [1, -1])
        self.assertEqual(answers([3, 0, 0]), [1, -4])
        # Condition 0, limits 7, 5 and 3.
        self.assertEqual(answers([4, 4, 0, 7, -2, 3, 0]), [1, -4])
        # The amounts 1/3 and -2/3.
        self.assertEqual(answers([5, 1, 3, 1, 2, 1, -2]), [1, -4])
        # The uppers may be an empty list.
        self.assertEqual(answers([5, 1, 3, 1, 0]), [1, -4])

    def test_the_example(self):
        posed = [1, 1, 2, 4, 4, 0, 4, 1, 0, 4, 2, 2, 3, 2, 4, 1, 5, 1, 1, 2, 1, 3]
        calls = posed + [3, 0, 0] + [4, 4, 2, 3, -4, 3, 0] + [5, 1, 2, 1, 2, 8, 2]
        self.assertEqual(answers(calls), [1, 0] + [2, 1, 2] + [6, 3, 2, 9, 1, 0, 0] + [3, 1, 7, 1])

    def test_how_each_outcome_is_written(self):
        self.assertEqual(answers(problem(1, [[0, -1, 1]], [1]) + BEST), [1, 0, 2, 0, 0])
        self.assertEqual(answers(problem(1, [], [1]) + BEST), [1, 0, 2, 0, 1])
        self.assertEqual(answers(ONE + BEST), [1, 0, 6, 0, 2, 5, 2, 5, 2])
        self.assertEqual(answers(FOUR + BEST), [1, 0, 12, 0, 2, 12, 1, 0, 1, 0, 1, 0, 1, 3, 1])

    def test_how_the_other_answers_are_written(self):
        self.assertEqual(answers(ONE + TIGHT), [1, 0, 2, 1, 0])
        self.assertEqual(answers(problem(1, [], [-1]) + TIGHT), [1, 0, 1, 0])
        self.assertEqual(answers(problem(1, [], [1]) + TIGHT), [1, 0, 1, -3])
        self.assertEqual(answers(ONE + table(0, 1, -1, 3)), [1, 0, 8, 3, 2, 1, 2, 2, 0, 1, 0])
        self.assertEqual(answers(problem(1, [[2, 1, 1]], [1]) + table(0, 1, 1, 2)), [1, 0, 3, 2, 1, 1])
        self.assertEqual(answers(ONE + table(1, 1, 1, 2) + table(0, 1, 1, 0)), [1, 0, 1, -2, 1, -1])
        self.assertEqual(answers(ONE + point([4], 6) + point([8], 3)), [1, 0, 3, 1, 2, 3, 3, 0, 8, 3])
        self.assertEqual(answers(ONE + point([4, 4], 6)), [1, 0, 1, -1])

    def test_all_six_calls_in_one_line(self):
        calls = [
            BEST, TIGHT, table(0, 1, 1, 1), point([1], 1), ONE, BEST, TIGHT, table(0, 4, -5, 2), point([5], 2),
            problem(5, [], [1] * 5), point([5], 1), table(0, 6, 0, 1), TIGHT, BEST,
            FOUR, point([5], 2), point([3, 0, 0, 0], 1), table(0, 1, 0, 1), TIGHT,
            BEGINS, point([3, 0, 0, 0], 1), table(0, 1, 0, 1), TIGHT, BEST]
        best_of_one = [0, 2, 5, 2, 5, 2]
        told = [
            [-4], [-4], [-4], [-4], [0], best_of_one, [1, 0], [2, 2, 2, 1, 0], [1, 5, 2],
            [-1], [0, 5, 1], [1, 2, 3, 1], [1, 0], best_of_one,
            [0], [-1], [1, 3, 1], [1, 2, 4, 1], [1, 0],
            [0], [-4], [-4], [-4], [-4]]
        line = [number for call in calls for number in call]
        before = list(line)
        self.assertEqual(ask(*calls), told)
        self.assertEqual(answers(line), [number for one in told for number in [len(one)] + one])
        self.assertEqual(line, before)

    def test_a_refused_call_is_read_to_its_end(self):
        refused = (table(9, 1, 1, 1), table(0, 1, 1, 4294967295), point([1] * 40, 1), point([], 1), point([1], -1))
        told = ask(ONE, *[call for one in refused for call in (one, BEST)])
        self.assertEqual(told[1::2], [[-2], [-1], [-1], [-1], [-1]])
        self.assertEqual(told[2::2], [[0, 2, 5, 2, 5, 2]] * 5)

    def test_several_calls_in_one_list(self):
        refused = problem(5, [], [1] * 5)
        calls = BEST + ONE + BEST + BEST + refused + FOUR + BEGINS + BEST
        best_of_one = [6, 0, 2, 5, 2, 5, 2]
        told = [1, -4, 1, 0] + best_of_one + best_of_one + [1, -1, 1, 0, 1, 0, 1, -4]
        self.assertEqual(answers(calls), told)

    def test_a_refused_problem_is_read_to_its_end(self):
        for refused in (problem(0, [], []), problem(1, [[9, 2]] * 39, [0] * 40), problem(7, [[2, 0, 0]], [])):
            self.assertEqual(ask(refused, BEGINS, BEST), [[-1], [0], [-4]])

    def test_400_calls(self):
        told = ask(ONE, *[BEST] * 399)
        self.assertEqual(told, [[0]] + [[0, 2, 5, 2, 5, 2]] * 399)
        crowded = problem(4, [[0, 1 + i, 7, -1, 2 + i, 1] for i in range(8)], [1, 1, 1, -1])
        told = ask(*[crowded, BEST] * 200)
        self.assertEqual(told, told[:2] * 200)

    def test_400_calls_with_tables(self):
        crowded = problem(4, [[0, 1 + i, 7, -1, 2 + i, 1] for i in range(8)], [1, 1, 1, -1])
        calls = [table(turn % 8, turn - 200, 1, 64) for turn in range(399)]
        told = ask(crowded, *calls)
        self.assertEqual(len(told), 400)
        self.assertEqual({one[0] for one in told[1:]}, {64})
        self.assertEqual(ask(crowded, *reversed(calls)), told[:1] + told[:0:-1])

    def test_whole_numbers_alone(self):
        others = TIGHT + table(0, 3, -2, 4) + point([4], 6) + point([9], 1)
        told = answers(others + ONE + BEST + others + FOUR + BEST + others + problem(1, [], [1]) + BEST + others)
        self.assertIs(type(told), list)
        self.assertEqual({type(number) for number in told}, {int})

    def test_what_is_handed_in_stays(self):
        others = TIGHT + table(0, 3, -2, 4) + table(9, 3, -2, 4) + point([4], 6) + point([9], 0)
        calls = BEST + ONE + BEST + others + FOUR + BEST + others + problem(9, [[0, 1]], [1]) + BEST
        before = list(calls)
        told = answers(calls)
        self.assertEqual(calls, before)
        told.append(7)
        self.assertEqual(calls, before)

    def test_two_times_know_nothing_of_each_other(self):
        self.assertEqual(answers(ONE), [1, 0])
        self.assertEqual(answers(BEST), [1, -4])
        self.assertEqual(answers(TIGHT), [1, -4])
        self.assertEqual(answers(table(0, 1, 1, 1)), [1, -4])
        self.assertEqual(answers(point([1], 1)), [1, -4])
        self.assertEqual(answers(ONE + BEST), answers(ONE + BEST))
        first = answers(FOUR)
        first.append(7)
        self.assertEqual(answers(FOUR), [1, 0])

    def test_prints_nothing(self):
        shown = io.StringIO()
        with contextlib.redirect_stdout(shown), contextlib.redirect_stderr(shown):
            answers(ONE + BEST + TIGHT + table(0, 3, -2, 4) + point([4], 6) + BEGINS)
        self.assertEqual(shown.getvalue(), "")


if __name__ == "__main__":
    unittest.main()
