"""ordered: rising by value, equal ones as they came, and v's columns with them."""

import itertools

from doubletables.tables import ordered
from tests.given import (
    EDGES, GREATEST, INFINITE, LEAST, MINUS_ZERO, NOT_FINITE, ONE, SIGN, ZERO, all_bits, near_doubles, short_doubles,
    small_doubles, stream, value_of, wide_doubles,
)
from tests.other import answer, ordered_words
from tests.refusing import CallCase
from tests.squares import by_rows


def counts(n):
    return [n, n * n]


def numbered(n):
    """A table of which each number tells its place: the smallest doubles, by 1."""
    return list(range(n * n))


class Ordered(CallCase):
    def gives(self, d, v, rising, columns):
        n = len(d)
        self.assertEqual(ordered(n, d, v), [0, n] + rising + [n * n] + columns, (d, v))

    def test_by_hand(self):
        v = by_rows([1.0, 2.0, 3.0], [4.0, 5.0, 6.0], [7.0, 8.0, 9.0])
        self.gives(
            all_bits([3.0, 1.0, 2.0]), v, all_bits([1.0, 2.0, 3.0]),
            by_rows([2.0, 3.0, 1.0], [5.0, 6.0, 4.0], [8.0, 9.0, 7.0]),
        )
        self.gives(
            all_bits([-1.0, -3.0, 2.0]), v, all_bits([-3.0, -1.0, 2.0]),
            by_rows([2.0, 1.0, 3.0], [5.0, 4.0, 6.0], [8.0, 7.0, 9.0]),
        )
        self.gives(all_bits([1.0, 2.0, 3.0]), v, all_bits([1.0, 2.0, 3.0]), v)
        self.gives([ONE], [MINUS_ZERO], [ONE], [MINUS_ZERO])

    def test_all_sizes(self):
        for n in list(range(1, 6)) + [16]:
            for seed in range(20):
                v = wide_doubles(seed, n * n)
                for d in (
                    near_doubles(seed, n, 3), small_doubles(seed, n), short_doubles(seed, n), wide_doubles(seed, n),
                    [EDGES[number % len(EDGES)] for number in stream(seed, n)],
                ):
                    self.assertEqual(ordered(n, d, v), answer(ordered_words, n, d, v))

    def test_every_order_of_some(self):
        for d in itertools.product(all_bits([-2.0, -0.0, 0.0, 1.0]), repeat=4):
            self.assertEqual(ordered(4, list(d), numbered(4)), answer(ordered_words, 4, list(d), numbered(4)))

    def test_by_value_and_not_by_bits(self):
        rising = sorted([x for x in EDGES if x != MINUS_ZERO], key=value_of)
        for start in range(0, len(rising) - 16, 7):
            part = rising[start:start + 16]
            v = numbered(16)
            columns = [x for i in range(16) for x in v[16 * i:16 * i + 16][::-1]]
            self.gives(part[::-1], v, part, columns)

    def test_equal_ones_as_they_came(self):
        self.gives([ONE, ONE], [1, 2, 3, 4], [ONE, ONE], [1, 2, 3, 4])
        self.gives([ONE, ZERO, ONE], numbered(3), [ZERO, ONE, ONE], [1, 0, 2, 4, 3, 5, 7, 6, 8])
        # -0 and 0 are equal: each stays as it came, and is told with its sign.
        for zeros in ([ZERO, MINUS_ZERO], [MINUS_ZERO, ZERO]):
            self.gives(zeros, [1, 2, 3, 4], zeros, [1, 2, 3, 4])
        self.gives(
            [MINUS_ZERO, LEAST | SIGN, ZERO], numbered(3), [LEAST | SIGN, MINUS_ZERO, ZERO],
            [1, 0, 2, 4, 3, 5, 7, 6, 8],
        )
        self.gives(
            [LEAST, ZERO, MINUS_ZERO], numbered(3), [ZERO, MINUS_ZERO, LEAST], [1, 2, 0, 4, 5, 3, 7, 8, 6]
        )

    def test_no_step_is_done(self):
        extremes = [GREATEST, MINUS_ZERO, LEAST | SIGN, GREATEST | SIGN]
        self.gives([GREATEST | SIGN, GREATEST], extremes, [GREATEST | SIGN, GREATEST], extremes)
        self.gives(
            [GREATEST, GREATEST | SIGN], extremes, [GREATEST | SIGN, GREATEST],
            [MINUS_ZERO, GREATEST, GREATEST | SIGN, LEAST | SIGN],
        )

    def test_refusals(self):
        self.refuses_sizes(ordered, 1, counts)
        for n in (1, 2, 5):
            self.refuses_counts(ordered, (n,), counts)
            self.refuses_not_finite(ordered, (n,), counts, GREATEST)
        for bad in NOT_FINITE:
            self.assertEqual(ordered(1, [bad], [ONE]), [-2])
            self.assertEqual(ordered(1, [ONE], [bad]), [-2])

    def test_nothing_is_kept(self):
        for d, v in (
            (all_bits([2.0, 1.0]), numbered(2)), ([ONE, ONE], [ONE] * 4), ([INFINITE, ONE], [ONE] * 4), ([ONE], [ONE]),
        ):
            self.keeps_nothing(lambda numbers, table: ordered(2, numbers, table), [d, v])
