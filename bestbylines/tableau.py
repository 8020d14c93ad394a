"""The best of linear conditions: a walk from corner to corner in whole numbers.

A corner holds n quantities at zero. Each quantity is a row: the sum is row 0,
the amounts are rows 1 to n, and what the conditions leave over comes behind
them. With t1 to tn for the held quantities, a row r stands for
(r[0] + r[1] * t1 + .. + r[n] * tn) / divisor. All but the sum have to be 0 or more.
"""


class Tableau:
    def __init__(self, conditions, goal):
        self.n = len(goal)
        self.divisor = 1
        self.rows = starting_rows(conditions, goal)
        self.held = list(range(self.n + 1))  # by column; column 0 is the value and holds none

    def swap(self, r, j):
        # Row r's quantity is held at zero from now on, in the place of column j's.
        fixed = self.rows[r]
        self.rows = [swapped(row, fixed, j, self.divisor) for row in self.rows]
        self.divisor = abs(fixed[j])
        self.held[j] = r

    def reach_fit(self):
        # Goes to the fitting corner whose first amount is least, then the second, and so on;
        # answers False, if no amounts fit. Each step makes the amounts later in this order,
        # so that no corner comes twice.
        while True:
            r = self.lacking_row()
            if r is None:
                return True
            j = self.mending_column(r)
            if j is None:
                return False
            self.swap(r, j)

    def lacking_row(self):
        for r in range(1, len(self.rows)):
            if self.rows[r][0] < 0:
                return r
        return None

    def mending_column(self, r):
        # The column that moves the amounts least for what it adds to row r.
        found = None
        for j in range(1, self.n + 1):
            if self.rows[r][j] > 0 and (found is None or self.moves_less(j, found, r)):
                found = j
        return found

    def moves_less(self, j, k, r):
        for row in self.rows[1:self.n + 1]:
            apart = row[j] * self.rows[r][k] - row[k] * self.rows[r][j]
            if apart != 0:
                return apart < 0
        return False

    def climb(self):
        # From a fitting corner to the best; answers False, if the sum has no limit.
        while True:
            j = self.bettering_column()
            if j is None:
                return True
            r = self.stopping_row(j)
            if r is None:
                return False
            self.swap(r, j)

    def bettering_column(self):
        # Of several, the one of the lowest quantity, here and for the row below: without
        # this rule (Bland's) the walk could go round and round at one point.
        found = None
        for j in range(1, self.n + 1):
            if self.betters(j) and (found is None or self.held[j] < self.held[found]):
                found = j
        return found

    def betters(self, j):
        # The amounts stand behind the sum, so that of several bests the one asked for is reached.
        if self.rows[0][j] != 0:
            return self.rows[0][j] > 0
        for row in self.rows[1:self.n + 1]:
            if row[j] != 0:
                return row[j] < 0
        return False

    def stopping_row(self, j):
        found = None
        for r in range(1, len(self.rows)):
            if self.rows[r][j] < 0 and (found is None or self.stops_sooner(r, found, j)):
                found = r
        return found

    def stops_sooner(self, r, s, j):
        return self.rows[r][0] * self.rows[s][j] > self.rows[s][0] * self.rows[r][j]


def starting_rows(conditions, goal):
    # At first the amounts themselves are held at zero.
    n = len(goal)
    rows = [[0] + goal]
    for i in range(1, n + 1):
        rows.append([1 if j == i else 0 for j in range(n + 1)])
    for condition in conditions:
        kind = condition[0]
        left_over = [condition[1]] + [-x for x in condition[2:]]
        # A condition of kind 1 is both: at most and at least.
        if kind != 2:
            rows.append(left_over)
        if kind != 0:
            rows.append([-x for x in left_over])
    return rows


def swapped(row, fixed, j, divisor):
    # Each number in a row is a determinant of the first rows' numbers, as the divisor is:
    # so the division leaves no rest.
    new = [(x * fixed[j] - row[j] * y) // divisor for x, y in zip(row, fixed)]
    new[j] = row[j]
    if fixed[j] < 0:
        # The divisor stays above 0.
        new = [-x for x in new]
    return new


def fraction(upper, lower):
    a = abs(upper)
    b = lower
    while b > 0:
        rest = a % b
        a = b
        b = rest
    return [upper // a, lower // a]


def best_of(conditions, goal):
    # Answers the best as it is told: 0, or 1, or 2 and the sum and the amounts as fractions.
    tableau = Tableau(conditions, goal)
    if not tableau.reach_fit():
        return [0]
    if not tableau.climb():
        return [1]
    told = [2]
    for row in tableau.rows[:tableau.n + 1]:
        told.extend(fraction(row[0], tableau.divisor))
    return told
