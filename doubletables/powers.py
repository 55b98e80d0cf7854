"""What is made of a table by times, again and again: power, exp, poly, own and iterate."""

from doubletables.doubles import ONE, is_zero, opposite, product, quotient, rounded
from doubletables.grids import (
    fused_along, greatest_size, middle_grid, plus_in_middle, plus_of, times_of, trace_of, unit_grid
)


class Iterated:
    def __init__(self):
        self.ended = 0
        self.told = []


def power_of_grid(a, k):
    s = unit_grid(len(a))
    t = a
    left = k
    while left != 0:
        if left % 2 == 1:
            s = times_of(s, t)
        left = left // 2
        # A t that is no longer needed isn't made: it may be beyond the greatest.
        if left != 0:
            t = times_of(t, t)
    return s


def product_row(row, factor):
    return [product(x, factor) for x in row]


def quotient_row(row, divisor):
    return [quotient(x, divisor) for x in row]


def series_of(b, terms):
    t = unit_grid(len(b))
    s = unit_grid(len(b))
    for i in range(1, terms + 1):
        divisor = rounded(0, i, 0)
        t = [quotient_row(row, divisor) for row in times_of(t, b)]
        s = plus_of(s, t)
    return s


def exp_of(a, terms, halvings):
    factor = rounded(0, 1, -halvings)
    s = series_of([product_row(row, factor) for row in a], terms)
    for turn in range(halvings):
        s = times_of(s, s)
    return s


def poly_of(a, c):
    s = middle_grid(c[len(c) - 1], len(a))
    for i in range(len(c) - 2, -1, -1):
        s = plus_in_middle(times_of(s, a), c[i])
    return s


def own_of(a):
    n = len(a)
    o = [ONE] * (n + 1)
    t = unit_grid(n)
    for k in range(1, n + 1):
        u = times_of(a, t)
        o[n - k] = opposite(quotient(trace_of(u), rounded(0, k, 0)))
        # Made for the last k too, though nothing is made of it then: a sum in it may be beyond the greatest.
        t = plus_in_middle(u, o[n - k])
    return o


def iterate_of(a, x, many):
    iterated = Iterated()
    y = x
    for turn in range(many):
        iterated.told.extend(y)
        z = [fused_along(row, y, 0) for row in a]
        g = greatest_size(z)
        if is_zero(g):
            iterated.ended = 1
            break
        y = quotient_row(z, g)
    return iterated
