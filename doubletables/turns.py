"""Own values by turning two columns of a table at a time: jacobi, and its answer put in order."""

from doubletables.doubles import (
    ONE, fused, is_equal, is_zero, minus, opposite, plus, power_of, product, quotient, rank_of, root, size_of, whole_of
)
from doubletables.grids import columns_of, flat, unit_grid
from doubletables.refusals import NotAsTold

FAR_POWER = 500


class Turn:
    def __init__(self, p, q, t):
        self.p = p
        self.q = q
        self.t = t
        self.c = quotient(ONE, root(fused(t, t, ONE)))
        self.s = product(t, self.c)


class Turned:
    def __init__(self, a):
        self.x = [list(row) for row in a]
        self.v = unit_grid(len(a))


def check_both_ways(a):
    for x, y in zip(flat(a), flat(columns_of(a))):
        if not is_equal(x, y):
            raise NotAsTold()


def is_far_below(z, e):
    # |z| 2^500 may lie beyond the greatest double, so this is a comparison of whole numbers.
    power = power_of(z) + FAR_POWER
    low = min(power, power_of(e))
    return (whole_of(z) << (power - low)) < (whole_of(e) << (power_of(e) - low))


def tangent_of(z, e):
    if is_far_below(z, e):
        return quotient(z, e)
    h = quotient(e, plus(z, z))
    g = plus(size_of(h), root(fused(h, h, ONE)))
    t = quotient(ONE, g)
    return opposite(t) if rank_of(h) < 0 else t


def first_turned(turn, u, w):
    return fused(turn.c, u, opposite(product(turn.s, w)))


def second_turned(turn, u, w):
    return fused(turn.s, u, product(turn.c, w))


def turn_middle(x, turn):
    p = turn.p
    q = turn.q
    z = x[p][q]
    x[p][p] = fused(opposite(turn.t), z, x[p][p])
    x[q][q] = fused(turn.t, z, x[q][q])
    x[p][q] = 0
    x[q][p] = 0


def turn_others(x, turn):
    p = turn.p
    q = turn.q
    for i in range(len(x)):
        if i != p and i != q:
            u = x[i][p]
            w = x[i][q]
            x[i][p] = first_turned(turn, u, w)
            x[p][i] = x[i][p]
            x[i][q] = second_turned(turn, u, w)
            x[q][i] = x[i][q]


def turn_columns(v, turn):
    for i in range(len(v)):
        u = v[i][turn.p]
        w = v[i][turn.q]
        v[i][turn.p] = first_turned(turn, u, w)
        v[i][turn.q] = second_turned(turn, u, w)


def turn_once(turned, p, q):
    x = turned.x
    if is_zero(x[p][q]):
        return
    turn = Turn(p, q, tangent_of(x[p][q], minus(x[q][q], x[p][p])))
    turn_middle(x, turn)
    turn_others(x, turn)
    turn_columns(turned.v, turn)


def sweep(turned):
    n = len(turned.x)
    for p in range(n - 1):
        for q in range(p + 1, n):
            turn_once(turned, p, q)


def jacobi_of(a, sweeps):
    check_both_ways(a)
    turned = Turned(a)
    for done in range(sweeps):
        sweep(turned)
    return turned


def rising_places(d):
    # Of equal ones those that came first stay first: sorted leaves them so.
    return sorted(range(len(d)), key=lambda i: rank_of(d[i]))
