"""The desk: reads the calls of a line and answers them, one behind another."""

from bestbylines.tableau import best_of

MOST_AMOUNTS = 4
MOST_CONDITIONS = 8
GREATEST_KIND = 2
FARTHEST = 1000000000


class UnknownCall(ValueError):
    pass


class Desk:
    def __init__(self):
        self.posed = False
        self.conditions = []
        self.goal = []

    def begin(self):
        self.posed = False
        return [0]

    def pose(self, n, lists):
        conditions = lists[:-1]
        goal = lists[-1]
        if is_refused(n, conditions, goal):
            return [-1]
        self.posed = True
        self.conditions = conditions
        self.goal = goal
        return [0]

    def tell_best(self):
        if not self.posed:
            return [-4]
        return [0] + best_of(self.conditions, self.goal)

    def answer(self, number, numbers, lists):
        if number == 0:
            return self.begin()
        if number == 1:
            return self.pose(numbers[0], lists)
        if number == 2:
            return self.tell_best()
        raise UnknownCall(f"no call has the number {number}")


def is_too_far(numbers):
    return any([abs(x) > FARTHEST for x in numbers])


def is_refused(n, conditions, goal):
    if n < 1 or n > MOST_AMOUNTS or len(conditions) > MOST_CONDITIONS:
        return True
    if len(goal) != n or is_too_far(goal):
        return True
    for condition in conditions:
        # A condition is its kind, its limit, and then a number for each amount.
        if len(condition) != n + 2 or condition[0] > GREATEST_KIND or is_too_far(condition[1:]):
            return True
    return False


def read_list(calls, at):
    # Answers the list whose length stands at this place, and the place behind it.
    end = at + 1 + calls[at]
    return calls[at + 1:end], end


def read_call(calls, at):
    # Answers the call's number, its numbers, its lists, and the place behind it.
    number = calls[at]
    numbers, place = read_list(calls, at + 1)
    lists = []
    how_many = calls[place]
    place += 1
    while len(lists) < how_many:
        one, place = read_list(calls, place)
        lists.append(one)
    return number, numbers, lists, place


def answers(calls):
    desk = Desk()
    told = []
    at = 0
    while at < len(calls):
        number, numbers, lists, at = read_call(calls, at)
        answered = desk.answer(number, numbers, lists)
        told.append(len(answered))
        told.extend(answered)
    return told
