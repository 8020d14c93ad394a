"""The best of linear conditions: a walk from corner to corner in whole numbers.

A corner holds n quantities at zero. Each quantity is a row: the sum, its sign turned,
is row 0, the amounts are rows 1 to n, and what the conditions leave over comes behind
them. With t1 to tn for the held quantities, and u for how far the limit that may
move is raised from here, a row r stands for
(r[0] + r[1] * t1 + .. + r[n] * tn + r[n + 1] * u) / divisor. All rows but row 0 have
to be 0 or more. The best is where row 0 is least, then row 1, and so on up to row n.
"""


class Tableau:
    def __init__(self, conditions, goal, moving=None):
        # moving: the condition whose limit may be raised later on.
        self.n = len(goal)
        self.divisor = 1
        self.rows = starting_rows(conditions, goal, moving)
        self.held = list(range(self.n + 1))  # by column; column 0 is the value and holds none
        # The order that reach_fit goes by begins with this row: at first the sum is left out,
        # for of the amounts alone it's sure that the first corner is the least.
        self.first = 1

    def settle(self):
        # Answers the best's kind; if that is 2, this is its corner now.
        if not self.reach_fit():
            return 0
        if self.first == 0:
            return 2
        if not self.climb():
            return 1
        self.first = 0
        return 2

    def raise_limit(self, by):
        # What a step changes is the same for each limit, so a corner that is least in the order
        # stays so: from one limit's best reach_fit leads on to the next one's.
        self.rows = [[row[0] + by * row[self.n + 1]] + row[1:] for row in self.rows]

    def best(self):
        # The sum and the amounts, all to be divided by the divisor.
        return [-self.rows[0][0]] + [row[0] for row in self.rows[1:self.n + 1]]

    def swap(self, r, j):
        # Row r's quantity is held at zero from now on, in the place of column j's.
        fixed = self.rows[r]
        self.rows = [swapped(row, fixed, j, self.divisor) for row in self.rows]
        self.divisor = abs(fixed[j])
        self.held[j] = r

    def reach_fit(self):
        # Goes to the fitting corner whose row self.first is least, then the row behind it, and
        # so on up to row n; answers False, if no amounts fit. Each step makes these rows later
        # in this order, so that no corner comes twice.
        while True:
            r = self.lacking_row()
            if r is None:
                return True
            j = self.mending_column(r)
            if j is None:
                return False
            self.swap(r, j)

    def lacking_row(self):
        for r in range(1, len(self.rows)):
            if self.rows[r][0] < 0:
                return r
        return None

    def mending_column(self, r):
        # The column that adds least to the rows in order for what it adds to row r.
        found = None
        for j in range(1, self.n + 1):
            if self.rows[r][j] > 0 and (found is None or self.moves_less(j, found, r)):
                found = j
        return found

    def moves_less(self, j, k, r):
        for row in self.rows[self.first:self.n + 1]:
            apart = row[j] * self.rows[r][k] - row[k] * self.rows[r][j]
            if apart != 0:
                return apart < 0
        return False

    def climb(self):
        # From a fitting corner to the best; answers False, if the sum has no limit.
        while True:
            j = self.bettering_column()
            if j is None:
                return True
            r = self.stopping_row(j)
            if r is None:
                return False
            self.swap(r, j)

    def bettering_column(self):
        # Of several, the one of the lowest quantity, here and for the row below: without
        # this rule (Bland's) the walk could go round and round at one point.
        found = None
        for j in range(1, self.n + 1):
            if self.betters(j) and (found is None or self.held[j] < self.held[found]):
                found = j
        return found

    def betters(self, j):
        # The amounts stand behind the sum, so that of several bests the one asked for is reached.
        for row in self.rows[:self.n + 1]:
            if row[j] != 0:
                return row[j] < 0
        return False

    def stopping_row(self, j):
        found = None
        for r in range(1, len(self.rows)):
            if self.rows[r][j] < 0 and (found is None or self.stops_sooner(r, found, j)):
                found = r
        return found

    def stops_sooner(self, r, s, j):
        return self.rows[r][0] * self.rows[s][j] > self.rows[s][0] * self.rows[r][j]


def starting_rows(conditions, goal, moving):
    # At first the amounts themselves are held at zero.
    n = len(goal)
    rows = [[0] + [-x for x in goal] + [0]]
    for j in range(1, n + 1):
        rows.append([1 if column == j else 0 for column in range(n + 2)])
    for i, condition in enumerate(conditions):
        kind = condition[0]
        left_over = [condition[1]] + [-x for x in condition[2:]] + [1 if i == moving else 0]
        # A condition of kind 1 is both: at most and at least.
        if kind != 2:
            rows.append(left_over)
        if kind != 0:
            rows.append([-x for x in left_over])
    return rows


def swapped(row, fixed, j, divisor):
    # Each number in a row is a determinant of the first rows' numbers, as the divisor is:
    # so the division leaves no rest.
    new = [(x * fixed[j] - row[j] * y) // divisor for x, y in zip(row, fixed)]
    new[j] = row[j]
    if fixed[j] < 0:
        # The divisor stays above 0.
        new = [-x for x in new]
    return new


def best_of(conditions, goal):
    # Answers the best's kind, the sum with the amounts behind it, and what to divide them by.
    tableau = Tableau(conditions, goal)
    kind = tableau.settle()
    return kind, tableau.best(), tableau.divisor


def sums_of(conditions, goal, i, start, step, k):
    # For each limit in condition i's place the best's kind, the sum, and what to divide it by.
    found = []
    tableau = None
    for limit in [start + step * turn for turn in range(k)]:
        if tableau is None:
            tableau = Tableau(with_limit(conditions, i, limit), goal, i)
        else:
            tableau.raise_limit(step)
        kind = tableau.settle()
        found.append((kind, tableau.best()[0], tableau.divisor))
        if kind == 1:
            # The climb left the order by the amounts, and didn't come to the one by the sum.
            tableau = None
    return found


def with_limit(conditions, i, limit):
    changed = list(conditions)
    changed[i] = [conditions[i][0], limit] + conditions[i][2:]
    return changed
