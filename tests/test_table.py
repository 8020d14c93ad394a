import random
import signal
import unittest

import reference
from calling import BEGINS, BEST, TIGHT, ask, behind, best, problem, table

BOUND = 1000000000
FAR = 1000 * BOUND
REFUSED = problem(1, [[3, 1, 1]], [1])

# The first of its two conditions holds just so.
KEPT = problem(1, [[0, 5, 1], [0, 9, 1]], [2])
KEPT_BEST = [0, 2, 10, 1, 5, 1]


class Refused(unittest.TestCase):
    def check_refused(self, call, number):
        self.assertEqual(ask(KEPT, call, BEST, TIGHT), [[0], [number], KEPT_BEST, [1, 0]])

    def check_taken(self, call, k):
        told = behind(KEPT, call)
        self.assertEqual(told[0], k)
        self.assertGreater(len(told), k)

    def test_without_a_problem(self):
        ordinary = table(0, 1, 1, 2)
        self.assertEqual(ask(ordinary, BEGINS, ordinary), [[-4], [0], [-4]])
        self.assertEqual(ask(REFUSED, ordinary), [[-1], [-4]])
        self.assertEqual(ask(KEPT, BEGINS, ordinary), [[0], [0], [-4]])

    def test_without_a_problem_goes_ahead_of_the_others(self):
        for call in (table(9, 1, 1, 2), table(0, 1, 1, 0), table(0, FAR, -FAR, 65), table(4294967295, FAR, FAR, 0)):
            with self.subTest(call=call):
                self.assertEqual(ask(call), [[-4]])
                self.assertEqual(ask(KEPT, BEGINS, call), [[0], [0], [-4]])

    def test_no_such_condition(self):
        for i in (2, 3, 8, BOUND, 4294967295):
            with self.subTest(i=i):
                self.check_refused(table(i, 1, 1, 2), -2)
        self.assertEqual(behind(problem(1, [], [-1]), table(0, 1, 1, 2)), [-2])
        eight = problem(1, [[0, 5, 1]] * 8, [1])
        self.assertEqual(behind(eight, table(8, 1, 1, 1)), [-2])
        self.assertEqual(behind(eight, table(7, 1, 1, 1)), [1, 2, 1, 1])

    def test_no_such_condition_goes_ahead_of_what_is_too_far(self):
        for call in (
                table(2, 1, 1, 0), table(2, 1, 1, 65), table(2, FAR, 1, 1), table(2, 1, FAR, 1),
                table(2, BOUND, 1, 2), table(4294967295, -FAR, -FAR, 4294967295)):
            with self.subTest(call=call):
                self.check_refused(call, -2)

    def test_how_many_limits(self):
        for k in (1, 2, 63, 64):
            with self.subTest(k=k):
                self.check_taken(table(0, 1, 1, k), k)
        for k in (0, 65, 66, BOUND, 4294967295):
            for step in (0, 1, -1):
                with self.subTest(k=k, step=step):
                    self.check_refused(table(0, 1, step, k), -1)

    def test_from(self):
        for start in (-BOUND, BOUND):
            with self.subTest(start=start):
                self.check_taken(table(0, start, 0, 1), 1)
                self.check_taken(table(1, start, 0, 64), 64)
        for start in (-BOUND - 1, BOUND + 1, -FAR, FAR):
            with self.subTest(start=start):
                self.check_refused(table(0, start, 0, 1), -1)
                self.check_refused(table(0, start, 0, 64), -1)

    def test_from_too_far_though_the_last_is_not(self):
        self.check_refused(table(0, BOUND + 1, -1, 2), -1)
        self.check_refused(table(0, -BOUND - 1, 1, 64), -1)

    def test_step(self):
        for step in (-BOUND, BOUND):
            with self.subTest(step=step):
                self.check_taken(table(0, 0, step, 1), 1)
                self.check_taken(table(0, 0, step, 2), 2)
        for step in (-BOUND - 1, BOUND + 1, -FAR, FAR):
            with self.subTest(step=step):
                self.check_refused(table(0, 0, step, 1), -1)
                self.check_refused(table(0, 0, step, 2), -1)

    def test_step_too_far_though_from_and_last_are_not(self):
        self.check_refused(table(0, -BOUND, BOUND + 1, 2), -1)
        self.check_refused(table(0, BOUND, -BOUND - 1, 2), -1)

    def test_the_last_of_the_limits(self):
        for sign in (1, -1):
            with self.subTest(sign=sign):
                self.check_taken(table(0, sign * (BOUND - 63), sign, 64), 64)
                self.check_refused(table(0, sign * (BOUND - 62), sign, 64), -1)
                self.check_taken(table(0, sign * (BOUND - 1), sign, 2), 2)
                self.check_refused(table(0, sign * BOUND, sign, 2), -1)
                self.check_taken(table(0, sign * BOUND, sign, 1), 1)
                self.check_taken(table(0, -sign * BOUND, sign * BOUND, 3), 3)
                self.check_refused(table(0, -sign * (BOUND - 1), sign * BOUND, 3), -1)
                self.check_refused(table(0, -sign * BOUND, sign * BOUND, 4), -1)
                self.check_refused(table(0, 0, sign * BOUND, 64), -1)

    def test_a_refused_problem_leaves_the_one_that_was(self):
        self.assertEqual(ask(KEPT, REFUSED, table(0, 3, 1, 1)), [[0], [-1], [1, 2, 6, 1]])


class Told(unittest.TestCase):
    def test_rising_and_falling(self):
        one = problem(1, [[0, 5, 1]], [2])
        self.assertEqual(behind(one, table(0, 3, 2, 3)), [3, 2, 6, 1, 2, 10, 1, 2, 14, 1])
        self.assertEqual(behind(one, table(0, 7, -2, 3)), [3, 2, 14, 1, 2, 10, 1, 2, 6, 1])

    def test_one_limit(self):
        one = problem(1, [[0, 5, 1]], [2])
        self.assertEqual(behind(one, table(0, 3, 7, 1)), [1, 2, 6, 1])
        self.assertEqual(behind(one, table(0, -3, 7, 1)), [1, 0])

    def test_a_step_of_0(self):
        one = problem(1, [[0, 5, 2]], [1])
        self.assertEqual(behind(one, table(0, 3, 0, 3)), [3] + [2, 3, 2] * 3)
        self.assertEqual(behind(one, table(0, -3, 0, 64)), [64] + [0] * 64)

    def test_64_limits(self):
        told = behind(problem(1, [[0, 5, 1]], [3]), table(0, 1, 1, 64))
        self.assertEqual(told, [64] + [number for limit in range(1, 65) for number in (2, 3 * limit, 1)])

    def test_fractions_in_least_terms(self):
        told = behind(problem(1, [[0, 1, 6]], [4]), table(0, 0, 1, 4))
        self.assertEqual(told, [4, 2, 0, 1, 2, 2, 3, 2, 4, 3, 2, 2, 1])
        told = behind(problem(1, [[2, 1, 6]], [-4]), table(0, 1, 1, 3))
        self.assertEqual(told, [3, 2, -2, 3, 2, -4, 3, 2, -2, 1])

    def test_the_condition_meant(self):
        two = problem(2, [[0, 4, 1, 0], [0, 7, 0, 1]], [1, 10])
        self.assertEqual(behind(two, table(0, 1, 1, 2)), [2, 2, 71, 1, 2, 72, 1])
        self.assertEqual(behind(two, table(1, 1, 1, 2)), [2, 2, 14, 1, 2, 24, 1])

    def test_where_another_condition_stops_it(self):
        two = problem(2, [[0, 1, 1, 0], [0, 4, 1, 1]], [3, 1])
        told = behind(two, table(0, 0, 1, 7))
        self.assertEqual(told, [7] + [number for total in (4, 6, 8, 10, 12, 12, 12) for number in (2, total, 1)])
        told = behind(two, table(0, 6, -1, 7))
        self.assertEqual(told, [7] + [number for total in (12, 12, 12, 10, 8, 6, 4) for number in (2, total, 1)])

    def test_a_condition_that_stands_twice(self):
        twice = problem(1, [[0, 5, 1], [0, 5, 1]], [1])
        for i in (0, 1):
            with self.subTest(i=i):
                self.assertEqual(behind(twice, table(i, 4, 1, 3)), [3, 2, 4, 1, 2, 5, 1, 2, 5, 1])
        twice = problem(1, [[1, 5, 1], [1, 5, 1]], [1])
        self.assertEqual(behind(twice, table(1, 4, 1, 3)), [3, 0, 2, 5, 1, 0])

    def test_the_present_limit_does_not_matter(self):
        for limit in (-BOUND, -1, 0, 7, BOUND):
            for kind, told in ((0, [2, 2, 2, 1, 0]), (1, [2, 2, 2, 1, 0]), (2, [2, 2, 5, 1, 2, 5, 1])):
                with self.subTest(limit=limit, kind=kind):
                    posed = problem(1, [[kind, limit, 1], [0, 5, 1]], [1])
                    self.assertEqual(behind(posed, table(0, 2, -3, 2)), told)

    def test_the_example(self):
        posed = problem(2, [[0, 4, 1, 0], [2, 2, 3, 2], [1, 5, 1, 1]], [1, 3])
        self.assertEqual(behind(posed, table(2, 3, -4, 3)), [3, 2, 9, 1, 0, 0])


class KindChanges(unittest.TestCase):
    def check(self, conditions, goal, i, limits, told):
        """limits: with one step from each to the next; told: what is told of each."""
        posed = problem(len(goal), conditions, goal)
        step = limits[1] - limits[0]
        self.assertEqual(list(range(limits[0], limits[-1] + step, step)), limits)
        flat = [number for one in told for number in one]
        self.assertEqual(behind(posed, table(i, limits[0], step, len(limits))), [len(limits)] + flat)
        flat = [number for one in reversed(told) for number in one]
        self.assertEqual(behind(posed, table(i, limits[-1], -step, len(limits))), [len(limits)] + flat)

    def test_from_0_to_2(self):
        self.check([[0, 0, 1]], [1], 0, [-2, -1, 0, 1], [[0], [0], [2, 0, 1], [2, 1, 1]])
        self.check([[2, 2, 1, 1], [0, 0, 1, 2]], [-1, -3], 1, [0, 1, 2, 3], [[0], [0], [2, -2, 1], [2, -2, 1]])

    def test_from_2_to_0(self):
        self.check([[0, 5, 2], [2, 0, 1]], [-1], 1, [1, 2, 3, 4], [[2, -1, 1], [2, -2, 1], [0], [0]])
        self.check([[2, 0, 1, 1], [0, 2, 2, 1]], [1, 0], 0, [0, 1, 2, 3], [[2, 1, 1], [2, 1, 1], [2, 0, 1], [0]])

    def test_from_0_to_2_and_back(self):
        conditions = [[1, 9, 1, 1], [0, 1, 1, 0], [0, 2, 0, 1]]
        told = [[0], [2, 0, 1], [2, 3, 1], [2, 6, 1], [2, 7, 1], [0], [0]]
        self.check(conditions, [1, 3], 0, [-1, 0, 1, 2, 3, 4, 5], told)

    def test_from_0_to_1(self):
        self.check([[0, 0, 0]], [1], 0, [-1, 0, 1], [[0], [1], [1]])
        self.check([[2, 3, 1, 0], [0, 9, 1, 0]], [0, 1], 1, [1, 2, 3, 4], [[0], [0], [1], [1]])

    def test_from_1_to_0(self):
        self.check([[2, 0, 0]], [1], 0, [-1, 0, 1], [[1], [1], [0]])
        self.check([[0, 3, 1, 0], [2, 9, 1, 0]], [-1, 2], 1, [1, 2, 3, 4], [[1], [1], [1], [0]])

    def test_from_0_to_1_and_back(self):
        self.check([[1, 7, 0]], [1], 0, [-1, 0, 1], [[0], [1], [0]])
        told = [[0], [1], [1], [0]]
        self.check([[0, 3, 1, 1, 0], [1, 9, 1, 1, 0]], [1, -1, 1], 1, [-2, 0, 2, 4], told)

    def test_a_limit_where_the_amounts_go_on_but_the_sum_does_not(self):
        self.check([[1, 0, 1, -1]], [2, -2], 0, [-2, 0, 2], [[2, -4, 1], [2, 0, 1], [2, 4, 1]])
        self.check([[2, 0, 1, -1]], [-1, 1], 0, [-2, 0, 2], [[2, 2, 1], [2, 0, 1], [2, -2, 1]])

    def test_of_a_problem_that_no_amounts_fit(self):
        posed = problem(1, [[0, -5, 1]], [1])
        told = ask(posed, BEST, table(0, -1, 1, 3), BEST)
        self.assertEqual(told, [[0], [0, 0], [3, 0, 2, 0, 1, 2, 1, 1], [0, 0]])


class TheProblemStays(unittest.TestCase):
    def test_asked_again_behind_it(self):
        calls = [table(0, -7, 1, 20), table(1, 20, -1, 25), table(0, 5, 0, 64), table(1, BOUND, -BOUND, 3)]
        first = ask(KEPT, BEST, TIGHT, *calls)
        self.assertEqual(first[:3], [[0], KEPT_BEST, [1, 0]])
        again = ask(KEPT, *calls, BEST, TIGHT, *reversed(calls))
        self.assertEqual(again[1:5], first[3:])
        self.assertEqual(again[5:7], first[1:3])
        self.assertEqual(again[7:], first[:2:-1])

    def test_where_the_kind_changes_in_it(self):
        posed = problem(2, [[0, 4, 1, 0], [2, 2, 3, 2], [1, 5, 1, 1]], [1, 3])
        told = ask(posed, table(2, 3, -4, 3), BEST, TIGHT, table(2, 3, -4, 3), BEST)
        kinds, found = [3, 2, 9, 1, 0, 0], [0, 2, 15, 1, 0, 1, 5, 1]
        self.assertEqual(told, [[0], kinds, found, [1, 2], kinds, found])

    def test_of_a_sum_without_a_limit(self):
        posed = problem(2, [[2, 3, 1, 0]], [0, 1])
        told = ask(posed, table(0, -1, 1, 2), BEST, TIGHT, table(0, -1, 1, 2))
        self.assertEqual(told, [[0], [2, 1, 1], [0, 1], [-3], [2, 1, 1]])


class AsTheOthers(unittest.TestCase):
    def setUp(self):
        signal.signal(signal.SIGALRM, self.too_long)
        signal.alarm(120)
        self.addCleanup(signal.alarm, 0)

    def too_long(self, number, frame):
        raise AssertionError("it comes to no end")

    def check_with_reference(self, conditions, goal, i, start, step, k):
        told = behind(problem(len(goal), conditions, goal), table(i, start, step, k))
        expected = reference.table(len(goal), conditions, goal, i, start, step, k)
        self.assertEqual(told, expected, (conditions, goal, i, start, step, k))

    def test_all_limits_0(self):
        conditions = [
            [0, 0, -2, -13, 10, 4], [0, 0, -8, -6, -5, 5], [0, 0, 13, -14, -13, 7], [0, 0, -14, 17, -1, 13],
            [0, 0, 13, -20, -11, -7], [0, 0, 5, 10, -14, -12], [0, 0, 19, -13, 16, -2]]
        for i in (0, 3, 6):
            self.check_with_reference(conditions, [1, -3, -12, 15], i, 2, -1, 4)
        known = [[0, 0, 1, -32, -4, 36], [0, 0, 1, -24, -1, 6], [0, 1, 0, 0, 1, 0]]
        for i in (0, 1, 2):
            self.check_with_reference(known, [3, -80, 2, -24], i, -2, 1, 5)

    def test_to_amounts_that_fit_without_a_look_at_the_sum(self):
        # Who goes by the sum from the beginning goes round and round here.
        conditions = [
            [0, 0, -1, -1, -3, -3], [0, 0, 3, -3, -1, 2], [2, 0, 3, -3, -2, 3], [2, 0, 2, 1, 3, -3],
            [0, 0, 3, -1, -3, -3], [2, 0, -3, -1, 0, 2], [0, 0, 1, -3, -1, -1], [2, 0, 1, 0, 1, -1]]
        self.check_with_reference(conditions, [0, 2, 3, 1], 7, 3, -3, 3)
        conditions = [
            [0, -1, -6, 6, -12, -16], [0, 1, 14, -16, -8, 9], [2, 1, -7, 2, 17, 9], [2, -1, 0, 4, -9, -4]]
        self.check_with_reference(conditions, [2, 17, 10, -1], 3, -7, 2, 6)

    def test_as_the_reference(self):
        source = random.Random(3)
        for turn in range(250):
            n = source.randint(1, 3)
            reach = source.choice((1, 3, 20))
            conditions = [
                [source.choice(source.choice(((0,), (0, 2), (0, 1, 2)))), source.randint(-1, 2 * reach)]
                + [source.randint(source.choice((-reach, 0)), reach) for _ in range(n)]
                for _ in range(source.randint(1, 4))]
            goal = [source.randint(-reach, reach) for _ in range(n)]
            if turn % 4 == 0:
                goal = list(source.choice(conditions)[2:])
            i = source.randrange(len(conditions))
            step = source.choice((1, -1, 2, -5, reach, -reach))
            self.check_with_reference(conditions, goal, i, conditions[i][1] - 2 * step, step, 5)

    def test_as_best_with_that_limit(self):
        source = random.Random(8)
        for turn in range(300):
            n = source.randint(1, 4)
            reach = source.choice((3, 1000, BOUND))
            kinds = source.choice(((0,), (0, 2), (0, 1, 2), (0, 0, 0, 1)))
            conditions = [
                [source.choice(kinds), source.randint(-reach // 9, reach)]
                + [source.randint(source.choice((-reach, 0)), reach) for _ in range(n)]
                for _ in range(source.randint(1, 8))]
            goal = [source.randint(-reach, reach) for _ in range(n)]
            i = source.randrange(len(conditions))
            step = source.choice((1, -1)) * source.randint(1, 1 + reach // 50)
            start = 0 if source.randint(0, 1) else max(-BOUND, -16 * step)
            expected = [32]
            for turn in range(32):
                expected += best(n, reference.with_limit(conditions, i, start + turn * step), goal)[:3]
            told = behind(problem(n, conditions, goal), table(i, start, step, 32))
            self.assertEqual(told, expected, (conditions, goal, i, start, step))


if __name__ == "__main__":
    unittest.main()
