"""Equations on tables as lists of rows: lu, chol and qr, and what is solved by them."""

from doubletables.doubles import ONE, fused, is_zero, opposite, product, quotient, rank_of, root, size_of
from doubletables.grids import (
    columns_of, fused_along, opposites, plus_of, rest_of, times_of, unit_grid, zero_grid
)
from doubletables.refusals import NotAsTold


class Factors:
    def __init__(self, a):
        self.x = [list(row) for row in a]
        self.p = list(range(len(a)))
        self.sign = 1


def less_times(row, factor, other):
    # F with the opposite of factor, number by number: what every elimination does to a row.
    return [fused(opposite(factor), y, s) for s, y in zip(row, other)]


def greatest_row(x, k):
    # Only one that is greater takes the place, so of those as great the first row stays.
    found = k
    for i in range(k + 1, len(x)):
        if size_of(x[i][k]) > size_of(x[found][k]):
            found = i
    return found


def exchange(numbers, r, k):
    kept = numbers[r]
    numbers[r] = numbers[k]
    numbers[k] = kept


def exchange_rows(factors, r, k):
    exchange(factors.x, r, k)
    exchange(factors.p, r, k)
    factors.sign = -factors.sign


def eliminate_below(x, k):
    for i in range(k + 1, len(x)):
        factor = quotient(x[i][k], x[k][k])
        x[i] = x[i][:k] + [factor] + less_times(x[i][k + 1:], factor, x[k][k + 1:])


def lu_of(a):
    factors = Factors(a)
    for k in range(len(a)):
        r = greatest_row(factors.x, k)
        if is_zero(factors.x[r][k]):
            raise NotAsTold()
        if r != k:
            exchange_rows(factors, r, k)
        eliminate_below(factors.x, k)
    return factors


def det_of(a):
    try:
        factors = lu_of(a)
    except NotAsTold:
        return 0
    s = ONE if factors.sign == 1 else opposite(ONE)
    for k in range(len(a)):
        s = product(s, factors.x[k][k])
    return s


def back_solved(x, start):
    # Only what x has in its middle and above it counts here.
    y = list(start)
    for i in range(len(y) - 1, -1, -1):
        for j in range(i + 1, len(y)):
            y[i] = less_times(y[i], x[i][j], y[j])
        y[i] = [quotient(s, x[i][i]) for s in y[i]]
    return y


def solved_by(factors, b):
    y = [b[r] for r in factors.p]
    for i in range(len(y)):
        for j in range(i):
            y[i] = less_times(y[i], factors.x[i][j], y[j])
    return back_solved(factors.x, y)


def solve_of(a, b):
    return solved_by(lu_of(a), b)


def refined_of(a, b, many):
    # lu of the same table comes to the same each time, so it is made once.
    factors = lu_of(a)
    y = solved_by(factors, b)
    for turn in range(many):
        y = plus_of(y, solved_by(factors, rest_of(a, y, b)))
    return y


def inverse_of(a):
    return solve_of(a, unit_grid(len(a)))


def left_at(a, x, i, j):
    # What a has there, less what the columns of x ahead of j make up.
    return fused_along(opposites(x[i][:j]), x[j][:j], a[i][j])


def chol_of(a):
    n = len(a)
    x = zero_grid(n, n)
    for j in range(n):
        s = left_at(a, x, j, j)
        if rank_of(s) <= 0:
            raise NotAsTold()
        x[j][j] = root(s)
        for i in range(j + 1, n):
            x[i][j] = quotient(left_at(a, x, i, j), x[j][j])
    return x


class Split:
    def __init__(self, a):
        # All of qr goes along columns, so those of a and of q are kept as lists.
        self.x_columns = columns_of(a)
        self.q_columns = []
        self.r = zero_grid(len(a[0]), len(a[0]))


def split_off(split, k):
    column = split.x_columns[k]
    s = fused_along(column, column, 0)
    if is_zero(s):
        raise NotAsTold()
    length = root(s)
    split.r[k][k] = length
    split.q_columns.append([quotient(x, length) for x in column])


def take_from_column(split, k, j):
    q_column = split.q_columns[k]
    s = fused_along(q_column, split.x_columns[j], 0)
    split.r[k][j] = s
    split.x_columns[j] = less_times(split.x_columns[j], s, q_column)


def qr_of(a):
    split = Split(a)
    n = len(split.r)
    for k in range(n):
        split_off(split, k)
        for j in range(k + 1, n):
            take_from_column(split, k, j)
    return split


def least_of(a, b):
    split = qr_of(a)
    # The columns of q as rows: their times b is the words' y[j, c], summed over all i.
    return back_solved(split.r, times_of(split.q_columns, b))
