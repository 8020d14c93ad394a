"""How the tests write calls, and how they read what is answered."""

from bestbylines.desk import answers

BEGINS = [0, 0, 0]
BEST = [2, 0, 0]
TIGHT = [3, 0, 0]


def problem(n, conditions, goal):
    """conditions: lists, each a kind, a limit, and then its numbers."""
    call = [1, 1, n, len(conditions) + 1]
    for numbers in list(conditions) + [goal]:
        call += [len(numbers)] + list(numbers)
    return call


def table(i, start, step, k):
    return [4, 4, i, start, step, k, 0]


def point(uppers, lower):
    return [5, 1, lower, 1, len(uppers)] + list(uppers)


def split(told):
    parts = []
    at = 0
    while at < len(told):
        end = at + 1 + told[at]
        if told[at] < 1 or end > len(told):
            raise AssertionError(f"not a list of answers: {told}")
        parts.append(told[at + 1:end])
        at = end
    return parts


def ask(*calls):
    """The answers to the calls of one line, a list for each."""
    return split(answers([number for call in calls for number in call]))


def behind(posed, call):
    """The answer to the call behind a problem that is not refused."""
    told = ask(posed, call)
    if told[0] != [0] or len(told) != 2:
        raise AssertionError(f"refused: {told}")
    return told[1]


def best(n, conditions, goal):
    """What best answers behind the 0, for a problem that is not refused."""
    told = behind(problem(n, conditions, goal), BEST)
    if told[0] != 0:
        raise AssertionError(f"refused: {told}")
    return told[1:]
