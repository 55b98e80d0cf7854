"""The calls: each takes numbers and lists, and answers one list, as the document's interface says."""

from doubletables.doubles import fused, is_equal, minus, plus, product, quotient, root
from doubletables.equations import chol_of, det_of, inverse_of, least_of, lu_of, qr_of, refined_of, solve_of
from doubletables.grids import columns_of, flat, grid_of, middle_of, norms_of, rest_of, times_of, trace_of
from doubletables.powers import exp_of, iterate_of, own_of, poly_of, power_of_grid
from doubletables.refusals import (
    NotAsTold, WrongCount, answered, check_counts, check_finite, check_rows_reach, check_some, check_times
)
from doubletables.turns import jacobi_of, rising_places


def with_count(numbers):
    return [len(numbers)] + numbers


def grid_told(grid):
    return with_count(flat(grid))


def square_of(n, a):
    check_counts([n], [a], [n * n])
    check_finite(a)
    return grid_of(a, n)


def step_told(which, x, y, z):
    if which > 5:
        raise WrongCount()
    check_finite([x, y, z])
    if which == 0:
        return [plus(x, y)]
    if which == 1:
        return [minus(x, y)]
    if which == 2:
        return [product(x, y)]
    if which == 3:
        return [quotient(x, y)]
    if which == 4:
        return [root(x)]
    return [fused(x, y, z)]


def step(which, x, y, z):
    return answered(lambda: step_told(which, x, y, z))


def paired_told(m, n, a, b, one_step):
    check_counts([m, n], [a, b], [m * n, m * n])
    check_finite(a + b)
    return with_count([one_step(x, y) for x, y in zip(a, b)])


def sum_of(m, n, a, b):
    return answered(lambda: paired_told(m, n, a, b, plus))


def less(m, n, a, b):
    return answered(lambda: paired_told(m, n, a, b, minus))


def scaled_told(m, n, x, a):
    check_counts([m, n], [a], [m * n])
    check_finite([x] + a)
    return with_count([product(y, x) for y in a])


def scaled(m, n, x, a):
    return answered(lambda: scaled_told(m, n, x, a))


def flipped_told(m, n, a):
    check_counts([m, n], [a], [m * n])
    check_finite(a)
    return grid_told(columns_of(grid_of(a, n)))


def flipped(m, n, a):
    return answered(lambda: flipped_told(m, n, a))


def rows_told(m, n, a, p):
    check_counts([m, n], [a, p], [m * n, m])
    check_finite(a)
    if sorted(p) != list(range(m)):
        raise NotAsTold()
    grid = grid_of(a, n)
    return grid_told([grid[i] for i in p])


def rows(m, n, a, p):
    return answered(lambda: rows_told(m, n, a, p))


def same_told(m, n, a, b):
    check_counts([m, n], [a, b], [m * n, m * n])
    check_finite(a + b)
    return [1 if all([is_equal(x, y) for x, y in zip(a, b)]) else 0]


def same(m, n, a, b):
    return answered(lambda: same_told(m, n, a, b))


def times_told(m, k, n, a, b):
    check_counts([m, k, n], [a, b], [m * k, k * n])
    check_finite(a + b)
    return grid_told(times_of(grid_of(a, k), grid_of(b, n)))


def times(m, k, n, a, b):
    return answered(lambda: times_told(m, k, n, a, b))


def rest_told(m, k, n, a, x, b):
    check_counts([m, k, n], [a, x, b], [m * k, k * n, m * n])
    check_finite(a + x + b)
    return grid_told(rest_of(grid_of(a, k), grid_of(x, n), grid_of(b, n)))


def rest(m, k, n, a, x, b):
    return answered(lambda: rest_told(m, k, n, a, x, b))


def trace(n, a):
    return answered(lambda: [trace_of(square_of(n, a))])


def norms_told(m, n, a):
    check_counts([m, n], [a], [m * n])
    check_finite(a)
    return with_count(norms_of(grid_of(a, n)))


def norms(m, n, a):
    return answered(lambda: norms_told(m, n, a))


def lu_told(n, a):
    factors = lu_of(square_of(n, a))
    return grid_told(factors.x) + with_count(factors.p) + [factors.sign]


def lu(n, a):
    return answered(lambda: lu_told(n, a))


def det(n, a):
    return answered(lambda: [det_of(square_of(n, a))])


def solve_told(n, m, a, b):
    check_counts([n, m], [a, b], [n * n, n * m])
    check_finite(a + b)
    return grid_told(solve_of(grid_of(a, n), grid_of(b, m)))


def solve(n, m, a, b):
    return answered(lambda: solve_told(n, m, a, b))


def refined_told(n, m, many, a, b):
    check_counts([n, m], [a, b], [n * n, n * m])
    check_times(many)
    check_finite(a + b)
    return grid_told(refined_of(grid_of(a, n), grid_of(b, m), many))


def refined(n, m, many, a, b):
    return answered(lambda: refined_told(n, m, many, a, b))


def inverse(n, a):
    return answered(lambda: grid_told(inverse_of(square_of(n, a))))


def chol(n, a):
    return answered(lambda: grid_told(chol_of(square_of(n, a))))


def qr_told(m, n, a):
    check_counts([m, n], [a], [m * n])
    check_rows_reach(m, n)
    check_finite(a)
    split = qr_of(grid_of(a, n))
    return grid_told(columns_of(split.q_columns)) + grid_told(split.r)


def qr(m, n, a):
    return answered(lambda: qr_told(m, n, a))


def least_told(m, n, k, a, b):
    check_counts([m, n, k], [a, b], [m * n, m * k])
    check_rows_reach(m, n)
    check_finite(a + b)
    return grid_told(least_of(grid_of(a, n), grid_of(b, k)))


def least(m, n, k, a, b):
    return answered(lambda: least_told(m, n, k, a, b))


def power(n, k, a):
    return answered(lambda: grid_told(power_of_grid(square_of(n, a), k)))


def exp_told(n, terms, halvings, a):
    check_times(terms)
    check_times(halvings)
    return grid_told(exp_of(square_of(n, a), terms, halvings))


def exp(n, terms, halvings, a):
    return answered(lambda: exp_told(n, terms, halvings, a))


def poly_told(n, a, c):
    check_counts([n], [a], [n * n])
    check_some(c)
    check_finite(a + c)
    return grid_told(poly_of(grid_of(a, n), c))


def poly(n, a, c):
    return answered(lambda: poly_told(n, a, c))


def own(n, a):
    return answered(lambda: with_count(own_of(square_of(n, a))))


def jacobi_told(n, sweeps, a):
    check_times(sweeps)
    turned = jacobi_of(square_of(n, a), sweeps)
    return with_count(middle_of(turned.x)) + grid_told(turned.v)


def jacobi(n, sweeps, a):
    return answered(lambda: jacobi_told(n, sweeps, a))


def ordered_told(n, d, v):
    check_counts([n], [d, v], [n, n * n])
    check_finite(d + v)
    places = rising_places(d)
    columns = columns_of(grid_of(v, n))
    return with_count([d[i] for i in places]) + grid_told(columns_of([columns[i] for i in places]))


def ordered(n, d, v):
    return answered(lambda: ordered_told(n, d, v))


def iterate_told(n, many, a, x):
    check_counts([n], [a, x], [n * n, n])
    check_times(many)
    check_finite(a + x)
    iterated = iterate_of(grid_of(a, n), x, many)
    return [iterated.ended] + with_count(iterated.told)


def iterate(n, many, a, x):
    return answered(lambda: iterate_told(n, many, a, x))
