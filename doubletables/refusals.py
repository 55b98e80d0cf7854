"""The refusals, and the checks that come ahead of all steps."""

from doubletables.doubles import StepNotFinite, is_finite

GREATEST_SIZE = 16
GREATEST_TIMES = 64


class WrongCount(Exception):
    pass


class NotFinite(Exception):
    pass


class NotAsTold(Exception):
    pass


def answered(work):
    try:
        told = work()
    except WrongCount:
        return [-1]
    except NotFinite:
        return [-2]
    except StepNotFinite:
        return [-3]
    except NotAsTold:
        return [-4]
    return [0] + told


def check_counts(sizes, lists, counts):
    for size in sizes:
        if size < 1 or size > GREATEST_SIZE:
            raise WrongCount()
    for numbers, count in zip(lists, counts):
        if len(numbers) != count:
            raise WrongCount()


def check_times(many):
    if many > GREATEST_TIMES:
        raise WrongCount()


def check_some(numbers):
    check_times(len(numbers))
    if len(numbers) == 0:
        raise WrongCount()


def check_rows_reach(m, n):
    if m < n:
        raise NotAsTold()


def check_finite(numbers):
    for x in numbers:
        if not is_finite(x):
            raise NotFinite()
