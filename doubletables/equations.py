"""Equations on tables as lists of rows: lu, and what is solved by it."""

from doubletables.doubles import ONE, fused, is_zero, opposite, product, quotient, size_of
from doubletables.grids import plus_of, rest_of
from doubletables.refusals import NotAsTold


class Factors:
    def __init__(self, a):
        self.x = [list(row) for row in a]
        self.p = list(range(len(a)))
        self.sign = 1


def less_times(row, factor, other):
    # F with the opposite of factor, number by number: what every elimination does to a row.
    return [fused(opposite(factor), y, s) for s, y in zip(row, other)]


def greatest_row(x, k):
    # Only one that is greater takes the place, so of those as great the first row stays.
    found = k
    for i in range(k + 1, len(x)):
        if size_of(x[i][k]) > size_of(x[found][k]):
            found = i
    return found


def exchange(numbers, r, k):
    kept = numbers[r]
    numbers[r] = numbers[k]
    numbers[k] = kept


def exchange_rows(factors, r, k):
    exchange(factors.x, r, k)
    exchange(factors.p, r, k)
    factors.sign = -factors.sign


def eliminate_below(x, k):
    for i in range(k + 1, len(x)):
        factor = quotient(x[i][k], x[k][k])
        x[i] = x[i][:k] + [factor] + less_times(x[i][k + 1:], factor, x[k][k + 1:])


def lu_of(a):
    factors = Factors(a)
    for k in range(len(a)):
        r = greatest_row(factors.x, k)
        if is_zero(factors.x[r][k]):
            raise NotAsTold()
        if r != k:
            exchange_rows(factors, r, k)
        eliminate_below(factors.x, k)
    return factors


def det_of(a):
    try:
        factors = lu_of(a)
    except NotAsTold:
        return 0
    s = ONE if factors.sign == 1 else opposite(ONE)
    for k in range(len(a)):
        s = product(s, factors.x[k][k])
    return s


def back_solved(x, start):
    # Only what x has in its middle and above it counts here.
    y = list(start)
    for i in range(len(y) - 1, -1, -1):
        for j in range(i + 1, len(y)):
            y[i] = less_times(y[i], x[i][j], y[j])
        y[i] = [quotient(s, x[i][i]) for s in y[i]]
    return y


def solved_by(factors, b):
    y = [b[r] for r in factors.p]
    for i in range(len(y)):
        for j in range(i):
            y[i] = less_times(y[i], factors.x[i][j], y[j])
    return back_solved(factors.x, y)


def solve_of(a, b):
    return solved_by(lu_of(a), b)


def refined_of(a, b, many):
    # lu of the same table comes to the same each time, so it is made once.
    factors = lu_of(a)
    y = solved_by(factors, b)
    for turn in range(many):
        y = plus_of(y, solved_by(factors, rest_of(a, y, b)))
    return y
