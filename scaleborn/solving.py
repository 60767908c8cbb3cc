"""Rows of integers: numbers that keep them, or weights that show that there are none.

Weights of a round are wanted: from 0 on for rows > and >=, of either sign for rows =, 1 in all
for the rows >, adding up to nothing. They are looked for by the simplex method in integers: from
weights that do not add up, pivot by pivot, with the first column that can come in and the first
basic one that can go out, so that it comes to an end. Where nothing can come in, the prices tell
numbers that keep all rows.
"""

from math import gcd


class Table:
    """A basis, and its inverse matrix times its determinant."""

    def __init__(self, size):
        self.size = size
        self.divisor = 1
        # Columns of weights have numbers from 0 on, the columns to be driven out those below 0.
        self.basis = [at - size for at in range(size)]
        self.matrix = [[1 if at == row else 0 for at in range(size)] for row in range(size)]

    def prices(self):
        """The sums of the matrix over the rows that are still to be driven out."""
        rows = [row for row, number in zip(self.matrix, self.basis) if number < 0]
        return [sum([row[at] for row in rows]) for at in range(self.size)]

    def bring_in(self, number, column):
        """Bring a column into the basis, in the place of the first one that reaches 0 first."""
        steps = [dot(row, column) for row in self.matrix]
        out = self._first_out(steps)
        pivot, old = steps[out], self.matrix[out]
        rows = [[(mine * pivot - step * its) // self.divisor for mine, its in zip(row, old)]
                for step, row in zip(steps, self.matrix)]
        self.matrix = [*rows[:out], old, *rows[out + 1:]]
        self.basis[out] = number
        self.divisor = pivot

    def _first_out(self, steps):
        """The place of the basic column that reaches 0 first."""
        out = None
        for at, step in enumerate(steps):
            if step > 0 and (out is None or self._is_sooner(steps, at, out)):
                out = at
        return out

    def _is_sooner(self, steps, at, out):
        """Whether one basic column reaches 0 ahead of another one; of equal ones the first in number."""
        mine = self.matrix[at][-1] * steps[out]
        its = self.matrix[out][-1] * steps[at]
        return mine < its or mine == its and self.basis[at] < self.basis[out]


def solved(rows, kinds, size):
    """Numbers that keep the rows, each of so many integers, and None; or None and weights of the rows."""
    columns, owners = _columns(rows, kinds)
    table = Table(size + 1)
    prices = table.prices()
    while prices[-1] > 0:
        number = _first_in(prices, columns)
        if number is None:
            return divided([-price for price in prices[:-1]]), None
        table.bring_in(number, columns[number])
        prices = table.prices()
    weights = [0] * len(rows)
    for number, row in zip(table.basis, table.matrix):
        if number >= 0:
            owner, sign = owners[number]
            weights[owner] = weights[owner] + sign * row[-1]
    return None, divided(weights)


def divided(numbers):
    """The integers by their common divisor."""
    divisor = 0
    for number in numbers:
        divisor = gcd(divisor, number)
    return [number // divisor for number in numbers] if divisor > 1 else numbers


def dot(one, other):
    """The sum of the products of two lists of integers."""
    return sum([mine * its for mine, its in zip(one, other)])


def _columns(rows, kinds):
    """The columns of the weights, and the row and the sign that each one stands for."""
    columns, owners = [], []
    for owner, row in enumerate(rows):
        columns.append([*row, 1 if kinds[owner] == ">" else 0])
        owners.append((owner, 1))
        if kinds[owner] == "=":
            columns.append([*[-number for number in row], 0])
            owners.append((owner, -1))
    return columns, owners


def _first_in(prices, columns):
    """The number of the first column that brings the weights nearer, None without any."""
    for number, column in enumerate(columns):
        if dot(prices, column) > 0:
            return number
    return None
