"""The desk: reads the calls of a line and answers them, one behind another."""

from bestbylines.tableau import best_of, sums_of

MOST_AMOUNTS = 4
MOST_CONDITIONS = 8
GREATEST_KIND = 2
MOST_LIMITS = 64
FARTHEST = 1000000000


class Desk:
    def __init__(self):
        self.posed = False
        self.conditions = []
        self.goal = []

    def begin(self):
        self.posed = False
        return [0]

    def pose(self, n, lists):
        conditions = lists[:-1]
        goal = lists[-1]
        if is_refused(n, conditions, goal):
            return [-1]
        self.posed = True
        self.conditions = conditions
        self.goal = goal
        return [0]

    def tell_best(self):
        if not self.posed:
            return [-4]
        kind, uppers, lower = best_of(self.conditions, self.goal)
        told = [0, kind]
        if kind == 2:
            for upper in uppers:
                told.extend(fraction(upper, lower))
        return told

    def tell_tight(self):
        if not self.posed:
            return [-4]
        kind, uppers, lower = best_of(self.conditions, self.goal)
        if kind != 2:
            return [-3]
        tight = [i for i, condition in enumerate(self.conditions) if apart(condition, uppers[1:], lower) == 0]
        return [len(tight)] + tight

    def tell_table(self, i, start, step, k):
        if not self.posed:
            return [-4]
        if i >= len(self.conditions):
            return [-2]
        if k < 1 or k > MOST_LIMITS or is_too_far([start, step, start + step * (k - 1)]):
            return [-1]
        told = [k]
        for kind, upper, lower in sums_of(self.conditions, self.goal, i, start, step, k):
            told.append(kind)
            if kind == 2:
                told.extend(fraction(upper, lower))
        return told

    def tell_point(self, uppers, lower):
        if not self.posed:
            return [-4]
        if len(uppers) != len(self.goal) or lower < 1 or is_too_far(uppers + [lower]):
            return [-1]
        fit = 1 if do_fit(self.conditions, uppers, lower) else 0
        return [fit] + fraction(total(self.goal, uppers), lower)

    def answer(self, number, numbers, lists):
        if number == 0:
            return self.begin()
        if number == 1:
            return self.pose(numbers[0], lists)
        if number == 2:
            return self.tell_best()
        if number == 3:
            return self.tell_tight()
        if number == 4:
            return self.tell_table(numbers[0], numbers[1], numbers[2], numbers[3])
        return self.tell_point(lists[0], numbers[0])


def is_too_far(numbers):
    return any([abs(x) > FARTHEST for x in numbers])


def is_refused(n, conditions, goal):
    if n < 1 or n > MOST_AMOUNTS or len(conditions) > MOST_CONDITIONS:
        return True
    if len(goal) != n or is_too_far(goal):
        return True
    for condition in conditions:
        # A condition is its kind, its limit, and then a number for each amount.
        if len(condition) != n + 2 or condition[0] > GREATEST_KIND or is_too_far(condition[1:]):
            return True
    return False


def total(numbers, uppers):
    return sum([number * upper for number, upper in zip(numbers, uppers)])


def apart(condition, uppers, lower):
    # How far the amounts uppers / lower lie above the limit, times lower.
    return total(condition[2:], uppers) - condition[1] * lower


def holds(condition, uppers, lower):
    above = apart(condition, uppers, lower)
    if condition[0] == 0:
        return above <= 0
    if condition[0] == 1:
        return above == 0
    return above >= 0


def do_fit(conditions, uppers, lower):
    return min(uppers) >= 0 and all([holds(condition, uppers, lower) for condition in conditions])


def fraction(upper, lower):
    a = abs(upper)
    b = lower
    while b > 0:
        rest = a % b
        a = b
        b = rest
    return [upper // a, lower // a]


def read_list(calls, at):
    # Answers the list whose length stands at this place, and the place behind it.
    end = at + 1 + calls[at]
    return calls[at + 1:end], end


def read_call(calls, at):
    # Answers the call's number, its numbers, its lists, and the place behind it.
    number = calls[at]
    numbers, place = read_list(calls, at + 1)
    lists = []
    how_many = calls[place]
    place += 1
    while len(lists) < how_many:
        one, place = read_list(calls, place)
        lists.append(one)
    return number, numbers, lists, place


def answers(calls):
    desk = Desk()
    told = []
    at = 0
    while at < len(calls):
        number, numbers, lists, at = read_call(calls, at)
        answered = desk.answer(number, numbers, lists)
        told.append(len(answered))
        told.extend(answered)
    return told
