"""The calls: each takes numbers and lists, and answers one list, as the document's interface says."""

from doubletables.doubles import (
    StepNotFinite, fused, is_finite, minus, plus, product, quotient, root
)

GREATEST_SIZE = 16


class WrongCount(Exception):
    pass


class NotFinite(Exception):
    pass


def answered(work):
    try:
        told = work()
    except WrongCount:
        return [-1]
    except NotFinite:
        return [-2]
    except StepNotFinite:
        return [-3]
    return [0] + told


def check_counts(sizes, lists, counts):
    for size in sizes:
        if size < 1 or size > GREATEST_SIZE:
            raise WrongCount()
    for numbers, count in zip(lists, counts):
        if len(numbers) != count:
            raise WrongCount()


def check_finite(numbers):
    for x in numbers:
        if not is_finite(x):
            raise NotFinite()


def with_count(numbers):
    return [len(numbers)] + numbers


def step_told(which, x, y, z):
    if which > 5:
        raise WrongCount()
    check_finite([x, y, z])
    if which == 0:
        return [plus(x, y)]
    if which == 1:
        return [minus(x, y)]
    if which == 2:
        return [product(x, y)]
    if which == 3:
        return [quotient(x, y)]
    if which == 4:
        return [root(x)]
    return [fused(x, y, z)]


def step(which, x, y, z):
    return answered(lambda: step_told(which, x, y, z))


def paired_told(m, n, a, b, one_step):
    check_counts([m, n], [a, b], [m * n, m * n])
    check_finite(a + b)
    return with_count([one_step(x, y) for x, y in zip(a, b)])


def sum_of(m, n, a, b):
    return answered(lambda: paired_told(m, n, a, b, plus))


def less(m, n, a, b):
    return answered(lambda: paired_told(m, n, a, b, minus))


def scaled_told(m, n, x, a):
    check_counts([m, n], [a], [m * n])
    check_finite([x] + a)
    return with_count([product(y, x) for y in a])


def scaled(m, n, x, a):
    return answered(lambda: scaled_told(m, n, x, a))


def flipped_told(m, n, a):
    check_counts([m, n], [a], [m * n])
    check_finite(a)
    told = []
    for j in range(n):
        told.extend(a[j::n])
    return with_count(told)


def flipped(m, n, a):
    return answered(lambda: flipped_told(m, n, a))
