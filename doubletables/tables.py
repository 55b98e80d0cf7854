"""The calls: each takes numbers and lists, and answers one list, as the document's interface says."""

from doubletables.doubles import (
    StepNotFinite, fused, is_equal, is_finite, minus, opposite, plus, product, quotient, root
)

GREATEST_SIZE = 16


class WrongCount(Exception):
    pass


class NotFinite(Exception):
    pass


class NotAsTold(Exception):
    pass


def answered(work):
    try:
        told = work()
    except WrongCount:
        return [-1]
    except NotFinite:
        return [-2]
    except StepNotFinite:
        return [-3]
    except NotAsTold:
        return [-4]
    return [0] + told


def check_counts(sizes, lists, counts):
    for size in sizes:
        if size < 1 or size > GREATEST_SIZE:
            raise WrongCount()
    for numbers, count in zip(lists, counts):
        if len(numbers) != count:
            raise WrongCount()


def check_finite(numbers):
    for x in numbers:
        if not is_finite(x):
            raise NotFinite()


def with_count(numbers):
    return [len(numbers)] + numbers


def step_told(which, x, y, z):
    if which > 5:
        raise WrongCount()
    check_finite([x, y, z])
    if which == 0:
        return [plus(x, y)]
    if which == 1:
        return [minus(x, y)]
    if which == 2:
        return [product(x, y)]
    if which == 3:
        return [quotient(x, y)]
    if which == 4:
        return [root(x)]
    return [fused(x, y, z)]


def step(which, x, y, z):
    return answered(lambda: step_told(which, x, y, z))


def paired_told(m, n, a, b, one_step):
    check_counts([m, n], [a, b], [m * n, m * n])
    check_finite(a + b)
    return with_count([one_step(x, y) for x, y in zip(a, b)])


def sum_of(m, n, a, b):
    return answered(lambda: paired_told(m, n, a, b, plus))


def less(m, n, a, b):
    return answered(lambda: paired_told(m, n, a, b, minus))


def scaled_told(m, n, x, a):
    check_counts([m, n], [a], [m * n])
    check_finite([x] + a)
    return with_count([product(y, x) for y in a])


def scaled(m, n, x, a):
    return answered(lambda: scaled_told(m, n, x, a))


def flipped_told(m, n, a):
    check_counts([m, n], [a], [m * n])
    check_finite(a)
    told = []
    for j in range(n):
        told.extend(a[j::n])
    return with_count(told)


def flipped(m, n, a):
    return answered(lambda: flipped_told(m, n, a))


def rows_told(m, n, a, p):
    check_counts([m, n], [a, p], [m * n, m])
    check_finite(a)
    if sorted(p) != list(range(m)):
        raise NotAsTold()
    told = []
    for i in p:
        told.extend(a[i * n:(i + 1) * n])
    return with_count(told)


def rows(m, n, a, p):
    return answered(lambda: rows_told(m, n, a, p))


def same_told(m, n, a, b):
    check_counts([m, n], [a, b], [m * n, m * n])
    check_finite(a + b)
    return [1 if all([is_equal(x, y) for x, y in zip(a, b)]) else 0]


def same(m, n, a, b):
    return answered(lambda: same_told(m, n, a, b))


def fused_along(row, column, start):
    s = start
    for x, y in zip(row, column):
        s = fused(x, y, s)
    return s


def times_onto(m, k, n, a, b, start):
    # start has what each number begins from: +0 for times, and b's numbers for rest.
    made = []
    for i in range(m):
        for j in range(n):
            made.append(fused_along(a[i * k:(i + 1) * k], b[j::n], start[i * n + j]))
    return made


def times_told(m, k, n, a, b):
    check_counts([m, k, n], [a, b], [m * k, k * n])
    check_finite(a + b)
    return with_count(times_onto(m, k, n, a, b, [0] * (m * n)))


def times(m, k, n, a, b):
    return answered(lambda: times_told(m, k, n, a, b))


def rest_told(m, k, n, a, x, b):
    check_counts([m, k, n], [a, x, b], [m * k, k * n, m * n])
    check_finite(a + x + b)
    return with_count(times_onto(m, k, n, [opposite(y) for y in a], x, b))


def rest(m, k, n, a, x, b):
    return answered(lambda: rest_told(m, k, n, a, x, b))


def trace_told(n, a):
    check_counts([n], [a], [n * n])
    check_finite(a)
    s = 0
    for x in a[::n + 1]:
        s = plus(s, x)
    return [s]


def trace(n, a):
    return answered(lambda: trace_told(n, a))
