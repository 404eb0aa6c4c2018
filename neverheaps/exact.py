"""Exact sums: rows of integers, fractions, and equations that are solved without rounding."""

from math import gcd, lcm


def dot(one, other):
    """The sum of the products of the items of two rows."""
    return sum([left * right for left, right in zip(one, other)])


def negated(row):
    """The row with each item's sign changed."""
    return tuple([-item for item in row])


def unit_row(size, place):
    """The row of this size that has a 1 at the place, and zeros."""
    return tuple([1 if at == place else 0 for at in range(size)])


def common_divisor(row):
    """The greatest common divisor of the items."""
    found = 0
    for item in row:
        found = gcd(found, item)
    return found


def prime_row(row):
    """The row, not zeros, divided by the common divisor of its items."""
    divisor = common_divisor(row)
    return tuple([item // divisor for item in row])


def lowest_terms(num, den):
    """The FRACTION num to den, den being above 0."""
    divisor = gcd(num, den)
    return num // divisor, den // divisor


def made_whole(shares):
    """A number from 1 on that makes all shares whole, and the integers that they are so many times."""
    times = 1
    for _, den in shares:
        times = lcm(times, den)
    return times, [num * (times // den) for num, den in shares]


def is_less(one, other):
    """Whether one FRACTION is less than the other one."""
    return one[0] * other[1] < other[0] * one[1]


class Equations:
    """Shares from 0 on, sought by the simplex method, in which columns sum to a goal.

    There is a row for each item of the goal, then one of the costs, and one of
    the distance from the goal. A row has an item for each column, one for each
    mark (a further column, which is in the way until its share is 0), and the
    goal. Each number is an integer to be divided by one divisor, above 0: so
    nothing is rounded, and the integers stay small (they are determinants).
    """

    def __init__(self, columns, goal, costs):
        self._many = len(columns)
        self._size = len(goal)
        self._divisor = 1
        self._signs = [-1 if item < 0 else 1 for item in goal]
        # Which column, or mark, has its share told by each row.
        self._told = [self._many + at for at in range(self._size)]
        self._rows = []
        for at, sign in enumerate(self._signs):
            marks = list(unit_row(self._size, at))
            self._rows.append([sign * column[at] for column in columns] + marks + [sign * goal[at]])
        distance = [-sum([row[at] for row in self._rows]) for at in range(self._many)]
        off = -sum([row[-1] for row in self._rows])
        self._rows.append(list(costs) + [0] * (self._size + 1))
        self._rows.append(distance + [0] * self._size + [off])

    def _pivot(self, at, column):
        """Let the row tell the share of the column."""
        lead = self._rows[at]
        # Only a row whose share is 0 is led by an item below 0; its sign is free.
        if lead[column] < 0:
            lead = negated(lead)
        factor = lead[column]
        rows = []
        for row in self._rows:
            times = row[column]
            rows.append([(item * factor - times * led) // self._divisor for item, led in zip(row, lead)])
        rows[at] = lead
        self._rows = rows
        self._divisor = factor
        self._told[at] = column

    def _is_sooner(self, at, other, column):
        """Whether the share of a row is at 0 before that of another one, as that of the column grows."""
        one = self._rows[at][-1] * self._rows[other][column]
        two = self._rows[other][-1] * self._rows[at][column]
        # Of equal ones the column that stands first goes: so no round is walked for ever.
        if one == two:
            return self._told[at] < self._told[other]
        return one < two

    def _leaving(self, column):
        """The row whose share comes down to 0 first, as that of the column grows."""
        found = None
        for at in range(self._size):
            if self._rows[at][column] > 0 and (found is None or self._is_sooner(at, found, column)):
                found = at
        return found

    def _entering(self, at):
        """The first column whose share, as it grows, lowers what this row tells; None if none does."""
        for column in range(self._many):
            if self._rows[at][column] < 0:
                return column
        return None

    def _lower(self, at):
        """Bring the costs, or the distance, as low as can be."""
        column = self._entering(at)
        while column is not None:
            self._pivot(self._leaving(column), column)
            column = self._entering(at)

    def reach(self):
        """Come as near to the goal as can be; tell whether it is reached."""
        self._lower(self._size + 1)
        return self._rows[-1][-1] == 0

    def row_against(self):
        """If the goal is not reached: a row against it."""
        marks = self._rows[-1][self._many:-1]
        return prime_row([sign * (self._divisor - item) for sign, item in zip(self._signs, marks)])

    def _take_marks_out(self):
        """Let no row tell the share of a mark, 0, if it can tell that of a column."""
        for at in range(self._size):
            columns = [column for column in range(self._many) if self._rows[at][column] != 0]
            if self._told[at] >= self._many and columns:
                self._pivot(at, columns[0])

    def cheapen(self):
        """If the goal is reached: make the shares as cheap as can be."""
        self._take_marks_out()
        self._lower(self._size)

    def shares(self):
        """The share of each column, a FRACTION."""
        found = [(0, 1)] * self._many
        for row, column in zip(self._rows, self._told):
            if column < self._many:
                found[column] = lowest_terms(row[-1], self._divisor)
        return tuple(found)

    def dearest_row(self):
        """If the shares are as cheap as can be: a tuple (scale, row) that proves it."""
        marks = self._rows[self._size][self._many:-1]
        row = [-sign * item for sign, item in zip(self._signs, marks)]
        scale, *items = prime_row([self._divisor] + row)
        return scale, tuple(items)
