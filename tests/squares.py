"""Tables n by n that the tests of lu and of what stands on it share."""

from tests.given import (
    GREATEST, MINUS_ZERO, ZERO, all_bits, great_doubles, near_doubles, short_doubles, small_doubles, value_of,
    wide_doubles,
)

GREAT = value_of(GREATEST)


def side_of(a):
    return int(len(a)**0.5)


def squares(n, seed):
    return [
        near_doubles(seed, n * n, 20), near_doubles(seed + 1, n * n, 1), short_doubles(seed, n * n),
        small_doubles(seed, n * n), small_doubles(seed + 50, n * n), wide_doubles(seed, n * n),
        wide_doubles(seed, n) * n, great_doubles(seed, n * n),
    ]


def both_ways(a):
    """The table that has a's numbers on and below the middle, and the same above it."""
    n = side_of(a)
    return [a[max(i, j) * n + min(i, j)] for i in range(n) for j in range(n)]


def by_rows(*rows):
    return all_bits([x for row in rows for x in row])


# A -3 at k = 0 ahead of a column that comes to 0 at k = 1.
OVER_AHEAD = by_rows([1.0, 1.0, GREAT], [1.0, 1.0, -GREAT], [0.0, 0.0, 1.0])
# A column of 0, and steps behind it that could not be done.
NOUGHT_AHEAD = (
    by_rows([0.0, 1.0, GREAT], [-0.0, 1.0, -GREAT], [0.0, 1.0, GREAT]),
    by_rows([1.0, 0.0, 0.0], [0.0, 0.0, GREAT], [1.0, -0.0, -GREAT]),
    by_rows([1.0, 1.0, GREAT, 0.0], [0.0, 0.0, GREAT, 1.0], [0.0, 0.0, -GREAT, 1.0], [1.0, 1.0, GREAT, GREAT]),
)
NOUGHT_COLUMNS = (
    [ZERO], [MINUS_ZERO],
    by_rows([0.0, 1.0], [-0.0, 1.0]), by_rows([1.0, 2.0], [2.0, 4.0]), by_rows([1.0, 0.0], [1.0, -0.0]),
    by_rows([-0.0, 1.0, 2.0], [0.0, 3.0, 4.0], [0.0, 5.0, 7.0]),
    by_rows([1.0, 0.0, 2.0], [0.5, -0.0, 4.0], [0.25, 0.0, 7.0]),
    by_rows([1.0, 2.0, 3.0], [1.0, 2.0, 4.0], [1.0, 2.0, 5.0]),
    by_rows([2.0, 1.0, 1.0], [1.0, 2.5, 2.5], [1.0, 1.5, 1.5]),
    by_rows([1.0, 0.0, 0.0], [0.0, 1.0, 0.0], [0.0, 0.0, -0.0]),
)
