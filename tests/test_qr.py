"""qr and least: columns taken off one by one in the told order, and -4 by the sizes between -1 and -2."""

import itertools

from doubletables.tables import least, qr
from tests.given import (
    GREATEST, INFINITE, LEAST, MINUS_ZERO, ONE, SIGN, ZERO, all_bits, bits, great_doubles, near_doubles,
    short_doubles, small_doubles, wide_doubles,
)
from tests.other import answer, least_words, qr_words
from tests.refusing import CallCase
from tests.squares import GREAT, by_rows

SIZES = list(itertools.product(range(1, 6), repeat=2))
TALL = [(m, n) for m, n in SIZES if m >= n]
BROAD = [(m, n) for m, n in SIZES if m < n]
FAR = 2.0**53
NOUGHT_COLUMNS = (
    (1, 1, [ZERO]), (1, 1, [MINUS_ZERO]), (3, 1, [ZERO, MINUS_ZERO, ZERO]),
    # No number is 0 here, but each square is rounded to 0.
    (1, 1, [LEAST]), (2, 1, all_bits([2.0**-538, -(2.0**-600)])),
    (2, 2, by_rows([0.0, 1.0], [0.0, 2.0])), (2, 2, by_rows([1.0, 1.0], [0.0, 0.0])),
    (3, 2, by_rows([1.0, 2.0], [0.0, -0.0], [0.0, 0.0])),
    (3, 3, by_rows([1.0, 5.0, 7.0], [0.0, 2.0, 3.0], [0.0, 0.0, 0.0])),
    (3, 3, by_rows([1.0, 5.0, 7.0], [0.0, 0.0, 3.0], [0.0, 0.0, 1.0])),
    # Steps behind the column of 0 that could not be done.
    (2, 2, by_rows([0.0, GREAT], [-0.0, GREAT])), (3, 3, by_rows([1.0, 0.0, 0.0], [0.0, 0.0, GREAT], [0.0, 0.0, 1.0])),
)
OVER_AHEAD = (
    (2, 2, by_rows([2.0**512, 0.0], [0.0, 0.0])),
    # The sum for the last column at k = 0, ahead of the middle one, which is 0.
    (3, 3, by_rows([3.0, 0.0, GREAT], [4.0, 0.0, GREAT], [0.0, 0.0, 0.0])),
    # What is taken off the last column at k = 0.
    (3, 3, by_rows([3.0, 0.0, -GREAT], [4.0, 0.0, GREAT], [0.0, 0.0, 0.0])),
)


def tall_tables(m, n, seed):
    return [
        near_doubles(seed, m * n, 20), near_doubles(seed + 1, m * n, 1), short_doubles(seed, m * n),
        small_doubles(seed, m * n), wide_doubles(seed, m * n), near_doubles(seed, m * n, 300),
        near_doubles(seed, m * n, 530), great_doubles(seed, m * n),
    ]


class Qr(CallCase):
    def gives(self, m, n, a, q, r):
        self.assertEqual(qr(m, n, a), [0, m * n] + q + [n * n] + r)

    def counts(self, m, n):
        return [m * n]

    def test_by_hand(self):
        self.gives(1, 1, [bits(-2.0)], [ONE | SIGN], [bits(2.0)])
        self.gives(2, 1, all_bits([3.0, 4.0]), all_bits([0.6, 0.8]), [bits(5.0)])
        a = by_rows([0.0, 2.0], [1.0, 3.0])
        self.gives(2, 2, a, by_rows([0.0, 1.0], [1.0, 0.0]), by_rows([1.0, 3.0], [0.0, 2.0]))
        a = by_rows([2.0, 1.0], [0.0, 0.0], [0.0, -4.0])
        self.gives(3, 2, a, by_rows([1.0, 0.0], [0.0, 0.0], [0.0, -1.0]), by_rows([2.0, 1.0], [0.0, 4.0]))

    def test_all_sizes(self):
        outcomes = set()
        for m, n in TALL:
            for seed in range(10):
                for a in tall_tables(m, n, 200 * seed + 10 * m + n):
                    expected = answer(qr_words, m, n, a)
                    self.assertEqual(qr(m, n, a), expected, (m, n, a))
                    outcomes.add(expected[0])
        self.assertEqual(outcomes, {0, -3, -4})

    def test_the_greatest_size(self):
        for m, n in ((16, 16), (16, 2)):
            a = near_doubles(5, m * n, 3)
            self.assertEqual(qr(m, n, a), answer(qr_words, m, n, a))

    def test_below_the_middle_of_r(self):
        for n in range(1, 6):
            a = near_doubles(n, 5 * n, 3)
            r = qr(5, n, a)[5 * n + 3:]
            self.assertEqual([r[i * n + j] for i in range(n) for j in range(i)], [ZERO] * (n * (n - 1) // 2))

    def test_the_order_of_the_sums(self):
        # Each q is .5, so the halves of the second column are summed up.
        halves = [ONE] * 4
        for column, expected in (([2 * FAR, 2.0, 2.0, 0.0], FAR), ([2.0, 2.0, 2 * FAR, 0.0], FAR + 2)):
            a = [x for pair in zip(halves, all_bits(column)) for x in pair]
            self.assertEqual(qr(4, 2, a)[12], bits(expected))
        # Five squares of 1.25 count together, but each one alone is lost beside 2^54.
        small, great = [bits(1.25)] * 5, [bits(2.0**27)]
        self.assertEqual(qr(6, 1, small + great)[-1], bits(2.0**27) + 1)
        self.assertEqual(qr(6, 1, great + small)[-1], bits(2.0**27))

    def test_what_is_taken_off_counts_for_the_next(self):
        # The third column's number for k = 1 is of what k = 0 left of it.
        a = by_rows([1.0, 1.0, 1.0], [2.0**-30, 0.0, 0.0], [0.0, 2.0**-30, 2.0**-29])
        self.assertEqual(qr(3, 3, a), answer(qr_words, 3, 3, a))

    def test_a_column_of_nought(self):
        for m, n, a in NOUGHT_COLUMNS:
            self.assertEqual(qr(m, n, a), [-4], (m, n, a))
        for m, n in TALL:
            for k in range(n):
                a = near_doubles(m, m * n, 3)
                a[k::n] = [MINUS_ZERO, ZERO, MINUS_ZERO, ZERO, ZERO][:m]
                self.assertEqual(qr(m, n, a), [-4])

    def test_a_step_that_is_not_finite(self):
        self.assertEqual(qr(1, 1, [bits(2.0**512)]), [-3])
        self.gives(1, 1, [bits(2.0**511)], [ONE], [bits(2.0**511)])
        self.assertEqual(qr(4, 1, [bits(2.0**511)] * 4), [-3])
        self.assertEqual(qr(2, 2, by_rows([3.0, GREAT], [4.0, GREAT])), [-3])
        self.assertEqual(qr(2, 2, by_rows([3.0, -GREAT], [4.0, GREAT])), [-3])
        for m, n, a in OVER_AHEAD:
            self.assertEqual(qr(m, n, a), [-3], (m, n, a))

    def test_zeros(self):
        self.gives(2, 1, [MINUS_ZERO, ONE], [MINUS_ZERO, ONE], [ONE])
        # The sum for r begins from +0, so it's +0; what is taken off then is F (-0, 1, -0), which is -0.
        a = by_rows([1.0, -0.0], [0.0, 1.0])
        self.gives(2, 2, a, by_rows([1.0, -0.0], [0.0, 1.0]), by_rows([1.0, 0.0], [0.0, 1.0]))
        b = by_rows([1.0, 0.0], [0.0, 1.0], [0.0, -0.0])
        self.gives(3, 2, b, by_rows([1.0, 0.0], [0.0, 1.0], [0.0, -0.0]), by_rows([1.0, 0.0], [0.0, 1.0]))

    def test_fewer_rows_than_columns(self):
        for m, n in BROAD + [(1, 16), (15, 16)]:
            for x in (ONE, ZERO, GREATEST, INFINITE, 2**64 - 1):
                self.assertEqual(qr(m, n, [x] * (m * n)), [-4])
                for count in (0, m * n - 1, m * n + 1, n * n):
                    self.assertEqual(qr(m, n, [x] * count), [-1])
        for m, n in ((0, 1), (0, 5), (1, 17), (5, 2**64 - 1), (0, 17)):
            self.assertEqual(qr(m, n, [ONE] * min(m * n, 300)), [-1])

    def test_refusals_ahead_of_the_steps(self):
        self.refuses_sizes(qr, 2, self.counts)
        for sizes in SIZES:
            self.refuses_counts(qr, sizes, self.counts)
        for m, n in ((1, 1), (3, 2), (3, 3)):
            for fill in (ZERO, GREATEST):
                self.refuses_not_finite(qr, (m, n), self.counts, fill)

    def test_nothing_is_kept(self):
        for a in (all_bits([1.5, -2.5, 3.5, 0.1]), [ZERO] * 4, [GREATEST] * 4, [INFINITE] * 4, [ONE] * 3):
            self.keeps_nothing(lambda numbers: qr(2, 2, numbers), [a])
        self.keeps_nothing(lambda numbers: qr(1, 2, numbers), [[ONE, ONE]])


class Least(CallCase):
    def gives(self, m, n, k, a, b, y):
        self.assertEqual(least(m, n, k, a, b), [0, n * k] + y)

    def counts(self, m, n, k):
        return [m * n, m * k]

    def test_by_hand(self):
        self.gives(1, 1, 1, [bits(4.0)], [bits(-6.0)], [bits(-1.5)])
        a = by_rows([1.0, 0.0], [0.0, 1.0], [0.0, 0.0])
        self.gives(3, 2, 1, a, all_bits([1.0, 2.0, 3.0]), all_bits([1.0, 2.0]))
        b = by_rows([1.0, 2.0, 3.0], [4.0, 5.0, 6.0], [7.0, 8.0, 9.0])
        self.gives(3, 2, 3, a, b, by_rows([1.0, 2.0, 3.0], [4.0, 5.0, 6.0]))
        # The mean of four numbers.
        self.gives(4, 1, 1, [ONE] * 4, all_bits([1.0, 2.0, 3.0, 6.0]), [bits(3.0)])

    def test_all_sizes(self):
        outcomes = set()
        for m, n in TALL:
            for k in range(1, 6):
                for seed in range(2):
                    start = 1000 * seed + 100 * m + 10 * n + k
                    for a, b in zip(tall_tables(m, n, start), tall_tables(m, k, start + 7)):
                        expected = answer(least_words, m, n, k, a, b)
                        self.assertEqual(least(m, n, k, a, b), expected, (m, n, k, a, b))
                        outcomes.add(expected[0])
        self.assertEqual(outcomes, {0, -3, -4})

    def test_the_greatest_size(self):
        a, b = near_doubles(5, 256, 3), near_doubles(6, 256, 3)
        self.assertEqual(least(16, 16, 16, a, b), answer(least_words, 16, 16, 16, a, b))

    def test_the_order_of_the_sums(self):
        ones = [ONE] * 4
        self.gives(4, 1, 1, ones, all_bits([2 * FAR, 2.0, 2.0, 0.0]), [bits(FAR / 2)])
        self.gives(4, 1, 1, ones, all_bits([2.0, 2.0, 2 * FAR, 0.0]), [bits(FAR / 2 + 1)])

    def test_the_order_going_up(self):
        a = by_rows([1.0, -1.0, -1.0], [0.0, 1.0, 0.0], [0.0, 0.0, 1.0])
        self.gives(3, 3, 1, a, all_bits([1.0, FAR, 1.0]), all_bits([FAR, FAR, 1.0]))
        self.gives(3, 3, 1, a, all_bits([1.0, 1.0, FAR]), all_bits([FAR + 2, 1.0, FAR]))

    def test_refusals_as_qr_gives_them(self):
        for k in (1, 2, 5):
            for x in (ONE, GREATEST):
                for m, n, a in NOUGHT_COLUMNS:
                    self.assertEqual(least(m, n, k, a, [x] * (m * k)), [-4])
                for m, n, a in OVER_AHEAD:
                    self.assertEqual(least(m, n, k, a, [x] * (m * k)), [-3])

    def test_a_step_behind_qr_that_is_not_finite(self):
        self.assertEqual(least(2, 1, 1, all_bits([3.0, 4.0]), [GREATEST] * 2), [-3])
        self.assertEqual(least(2, 1, 2, all_bits([3.0, 4.0]), [ONE, GREATEST] * 2), [-3])
        self.assertEqual(least(1, 1, 1, [bits(2.0**-500)], [bits(2.0**1000)]), [-3])
        up = by_rows([1.0, 1.0], [0.0, 1.0])
        self.assertEqual(least(2, 2, 1, up, [GREATEST | SIGN, GREATEST]), [-3])
        self.gives(2, 2, 1, up, [GREATEST, GREATEST], [ZERO, GREATEST])

    def test_zeros(self):
        # The sums begin from +0, so a -0 of b alone can't be seen, but the sign of a quotient can.
        self.gives(1, 1, 2, [ONE], [MINUS_ZERO, ZERO], [ZERO, ZERO])
        self.gives(1, 1, 2, [ONE | SIGN], [MINUS_ZERO, ZERO], [ZERO, ZERO])
        self.gives(1, 1, 2, [bits(4.0)], [LEAST, LEAST | SIGN], [ZERO, MINUS_ZERO])

    def test_fewer_rows_than_columns(self):
        for m, n in BROAD + [(15, 16)]:
            for k in (1, 2, 5):
                for x in (ONE, ZERO, GREATEST, INFINITE, 2**64 - 1):
                    a, b = [x] * (m * n), [x] * (m * k)
                    self.assertEqual(least(m, n, k, a, b), [-4])
                    for lists in ((a[1:], b), (a + [x], b), (a, b[1:]), (a, b + [x]), ([], b), (a, [])):
                        self.assertEqual(least(m, n, k, *lists), [-1])
        for k in (0, 17, 2**64 - 1):
            self.assertEqual(least(1, 2, k, [ONE] * 2, [ONE] * min(k, 300)), [-1])
        self.assertEqual(least(0, 2, 1, [], []), [-1])
        self.assertEqual(least(1, 17, 1, [ONE] * 17, [ONE]), [-1])

    def test_refusals_ahead_of_the_steps(self):
        self.refuses_sizes(least, 3, self.counts)
        for m, n in SIZES:
            for k in (1, 2, 4):
                self.refuses_counts(least, (m, n, k), self.counts)
        for sizes in ((1, 1, 1), (3, 2, 1), (3, 3, 2), (2, 1, 4)):
            for fill in (ZERO, GREATEST):
                self.refuses_not_finite(least, sizes, self.counts, fill)

    def test_nothing_is_kept(self):
        for a in (all_bits([1.5, -2.5, 3.5, 0.1]), [ZERO] * 4, [GREATEST] * 4, [INFINITE] * 4, [ONE] * 3):
            self.keeps_nothing(lambda x, y: least(2, 2, 2, x, y), [a, a])
        same = all_bits([1.0, 2.0, 3.0, 4.0])
        self.assertEqual(least(2, 2, 2, same, same), least(2, 2, 2, same, list(same)))
