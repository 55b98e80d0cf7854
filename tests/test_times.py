"""times, rest and trace: promise 2, the told steps in the told order, each rounded once."""

import itertools
import unittest

from doubletables.tables import rest, times, trace
from tests.given import (
    BAD_SIZES, GREATEST, INFINITE, LEAST, MINUS_ZERO, NOT_FINITE, ONE, SIGN, ZERO, all_bits, bits, minus_sign,
    near_doubles, other_chain, other_step, short_doubles, told, wide_doubles,
)

SIZES = list(itertools.product(range(1, 6), repeat=3))
TWO = bits(2.0)
THREE = bits(3.0)
HALF = bits(0.5)


def other_times(m, k, n, a, b):
    return told([
        other_chain([(a[i * k + t], b[t * n + j]) for t in range(k)], ZERO) for i in range(m) for j in range(n)
    ])


def other_rest(m, k, n, a, x, b):
    return told([
        other_chain([(minus_sign(a[i * k + t]), x[t * n + j]) for t in range(k)], b[i * n + j])
        for i in range(m) for j in range(n)
    ])


def triples_of(sizes, seed):
    m, k, n = sizes
    counts = (m * k, k * n, m * n)
    return [
        [near_doubles(seed + part, count, 20) for part, count in enumerate(counts)],
        [short_doubles(seed + part, count) for part, count in enumerate(counts)],
        [wide_doubles(seed + part, count) for part, count in enumerate(counts)],
    ]


class Times(unittest.TestCase):
    def test_by_hand(self):
        a = all_bits([1.0, 2.0, 3.0, 4.0, 5.0, 6.0])
        b = all_bits([1.0, 0.0, 2.0, -1.0, 0.5, 1.0, 1.0, 0.0, 2.0, 1.0, -1.0, 3.0])
        expected = [8.0, 5.0, 1.0, 8.0, 18.5, 11.0, 7.0, 14.0]
        self.assertEqual(times(2, 3, 4, a, b), [0, 8] + all_bits(expected))

    def test_all_sizes(self):
        for sizes in SIZES:
            m, k, n = sizes
            for a, b, c in triples_of(sizes, 100 * m + 10 * k + n):
                self.assertEqual(times(m, k, n, a, b), other_times(m, k, n, a, b), sizes)

    def test_the_greatest_size(self):
        a, b = near_doubles(8, 256, 9), near_doubles(9, 256, 9)
        self.assertEqual(times(16, 16, 16, a, b), other_times(16, 16, 16, a, b))

    def test_the_order_can_be_seen(self):
        row = all_bits([2.0**53, 1.0, 1.0])
        self.assertEqual(times(1, 3, 1, row, [ONE] * 3), [0, 1, bits(2.0**53)])
        self.assertEqual(times(1, 3, 1, row[::-1], [ONE] * 3), [0, 1, bits(2.0**53 + 2)])

    def test_each_step_is_rounded_once(self):
        # With its product rounded by itself, the second step would give 0.
        x = bits(1.0 + 2.0**-30)
        self.assertEqual(times(1, 2, 1, [bits(-1.0 - 2.0**-29), x], [ONE, x]), [0, 1, bits(2.0**-60)])

    def test_a_step_on_the_way_that_is_not_finite(self):
        row = [GREATEST, GREATEST, GREATEST | SIGN]
        self.assertEqual(times(1, 3, 1, row, [ONE] * 3), [-3])
        self.assertEqual(times(1, 3, 1, [row[0], row[2], row[1]], [ONE] * 3), [0, 1, GREATEST])
        self.assertEqual(times(1, 2, 1, [TWO, TWO], [GREATEST, GREATEST | SIGN]), [-3])
        # The last number of a table alone.
        self.assertEqual(times(2, 1, 2, [ONE, TWO], [ONE, GREATEST]), [-3])

    def test_zeros(self):
        self.assertEqual(times(1, 1, 1, [MINUS_ZERO], [ONE]), [0, 1, ZERO])
        self.assertEqual(times(1, 2, 1, [MINUS_ZERO] * 2, [ONE] * 2), [0, 1, ZERO])
        self.assertEqual(times(1, 2, 1, [ONE, ONE], [TWO, TWO | SIGN]), [0, 1, ZERO])
        self.assertEqual(times(1, 1, 1, [LEAST | SIGN], [HALF]), [0, 1, MINUS_ZERO])
        self.assertEqual(times(1, 2, 1, [LEAST | SIGN, ZERO], [HALF, ONE]), [0, 1, ZERO])
        self.assertEqual(times(1, 2, 1, [LEAST | SIGN, MINUS_ZERO], [HALF, ONE]), [0, 1, MINUS_ZERO])

    def test_sizes_and_counts(self):
        for bad in BAD_SIZES:
            for row in ([], [ONE], [INFINITE] * 17):
                for place in range(3):
                    m, k, n = [bad if place == p else 1 for p in range(3)]
                    self.assertEqual(times(m, k, n, row, row), [-1])
        for m, k, n in SIZES:
            a, b = [ONE] * (m * k), [ONE] * (k * n)
            for bad in (a[1:], a + [ONE], [], [INFINITE] * (m * k + 1)):
                self.assertEqual(times(m, k, n, bad, b), [-1])
                self.assertEqual(times(m, k, n, bad, [INFINITE] * (k * n)), [-1])
            for bad in (b[1:], b + [ONE], [], [INFINITE] * (k * n + 1)):
                self.assertEqual(times(m, k, n, a, bad), [-1])
                self.assertEqual(times(m, k, n, [INFINITE] * (m * k), bad), [-1])

    def test_not_finite(self):
        for bad in NOT_FINITE:
            for k in range(6):
                row = [GREATEST] * 6
                row[k] = bad
                self.assertEqual(times(2, 3, 2, row, [GREATEST] * 6), [-2])
                self.assertEqual(times(2, 3, 2, [GREATEST] * 6, row), [-2])
        self.assertEqual(times(2, 3, 2, [GREATEST] * 6, [GREATEST] * 6), [-3])


class Rest(unittest.TestCase):
    def test_by_hand(self):
        a = all_bits([1.0, 2.0, 3.0, 4.0, 5.0, 6.0])
        x = all_bits([1.0, 2.0, 3.0])
        self.assertEqual(rest(2, 3, 1, a, x, all_bits([20.0, 30.0])), [0, 2] + all_bits([6.0, -2.0]))
        self.assertEqual(rest(1, 1, 1, [THREE], [TWO], [bits(7.0)]), [0, 1, ONE])

    def test_all_sizes(self):
        for sizes in SIZES:
            m, k, n = sizes
            for a, x, b in triples_of(sizes, 1000 * m + 100 * k + n):
                self.assertEqual(rest(m, k, n, a, x, b), other_rest(m, k, n, a, x, b), sizes)

    def test_begins_from_b(self):
        # From 2^53 on each 1 is lost; put together first, the two would count.
        a = [minus_sign(ONE)] * 2
        self.assertEqual(rest(1, 2, 1, a, [ONE] * 2, [bits(2.0**53)]), [0, 1, bits(2.0**53)])
        self.assertEqual(rest(1, 2, 1, a, all_bits([2.0**53, 1.0]), [ONE]), [0, 1, bits(2.0**53)])

    def test_the_order_can_be_seen(self):
        a = [minus_sign(ONE)] * 3
        self.assertEqual(rest(1, 3, 1, a, all_bits([2.0**53, 1.0, 1.0]), [ZERO]), [0, 1, bits(2.0**53)])
        self.assertEqual(rest(1, 3, 1, a, all_bits([1.0, 1.0, 2.0**53]), [ZERO]), [0, 1, bits(2.0**53 + 2)])

    def test_each_step_is_rounded_once(self):
        x = bits(1.0 + 2.0**-30)
        self.assertEqual(rest(1, 1, 1, [x], [x], [bits(1.0 + 2.0**-29)]), [0, 1, bits(-(2.0**-60))])
        self.assertEqual(rest(1, 1, 1, [GREATEST], [TWO], [GREATEST]), [0, 1, GREATEST | SIGN])

    def test_a_step_on_the_way_that_is_not_finite(self):
        a = [minus_sign(ONE), ONE]
        self.assertEqual(rest(1, 2, 1, a, [GREATEST] * 2, [GREATEST]), [-3])
        self.assertEqual(rest(1, 2, 1, a[::-1], [GREATEST] * 2, [GREATEST]), [0, 1, GREATEST])

    def test_zeros(self):
        self.assertEqual(rest(1, 1, 1, [ONE], [ONE], [ONE]), [0, 1, ZERO])
        self.assertEqual(rest(1, 1, 1, [ZERO], [ONE], [MINUS_ZERO]), [0, 1, MINUS_ZERO])
        self.assertEqual(rest(1, 1, 1, [MINUS_ZERO], [ONE], [MINUS_ZERO]), [0, 1, ZERO])
        self.assertEqual(rest(1, 1, 1, [ZERO], [ONE], [ZERO]), [0, 1, ZERO])
        self.assertEqual(rest(1, 2, 1, [ZERO, MINUS_ZERO], [ONE, ONE | SIGN], [MINUS_ZERO]), [0, 1, MINUS_ZERO])
        self.assertEqual(rest(1, 1, 1, [LEAST], [HALF], [ZERO]), [0, 1, MINUS_ZERO])

    def test_sizes_and_counts(self):
        for bad in BAD_SIZES:
            for row in ([], [ONE], [INFINITE] * 17):
                for place in range(3):
                    m, k, n = [bad if place == p else 1 for p in range(3)]
                    self.assertEqual(rest(m, k, n, row, row, row), [-1])
        for m, k, n in SIZES:
            good = [[ONE] * (m * k), [ONE] * (k * n), [ONE] * (m * n)]
            for place in range(3):
                row = good[place]
                for bad in (row[1:], row + [ONE], [], [INFINITE] * (len(row) + 1)):
                    for others in (good, [[INFINITE] * len(numbers) for numbers in good]):
                        lists = list(others)
                        lists[place] = bad
                        self.assertEqual(rest(m, k, n, *lists), [-1])

    def test_not_finite(self):
        for bad in NOT_FINITE:
            for place, count in enumerate((6, 12, 8)):
                for k in range(count):
                    lists = [[GREATEST] * 6, [GREATEST] * 12, [GREATEST] * 8]
                    lists[place][k] = bad
                    self.assertEqual(rest(2, 3, 4, *lists), [-2])
        self.assertEqual(rest(2, 3, 4, [GREATEST] * 6, [GREATEST] * 12, [GREATEST] * 8), [-3])


class Trace(unittest.TestCase):
    def test_by_hand(self):
        a = all_bits([1.0, 90.0, 91.0, 92.0, 2.5, 93.0, 94.0, 95.0, -7.0])
        self.assertEqual(trace(3, a), [0, bits(-3.5)])
        self.assertEqual(trace(1, [THREE]), [0, THREE])

    def test_all_sizes(self):
        for n in (1, 2, 3, 4, 5, 16):
            for a in (near_doubles(n, n * n, 30), short_doubles(n, n * n), near_doubles(n + 1, n * n, 3)):
                s = ZERO
                for i in range(n):
                    s = other_step(0, s, a[i * n + i], ZERO)
                self.assertEqual(trace(n, a), [0, s])

    def test_begins_from_zero(self):
        self.assertEqual(trace(1, [MINUS_ZERO]), [0, ZERO])
        self.assertEqual(trace(2, [MINUS_ZERO] * 4), [0, ZERO])
        self.assertEqual(trace(2, [ONE, ZERO, ZERO, minus_sign(ONE)]), [0, ZERO])

    def test_the_order_can_be_seen(self):
        def middle(x, y, z):
            return [bits(x), ONE, ONE, ONE, bits(y), ONE, ONE, ONE, bits(z)]
        self.assertEqual(trace(3, middle(2.0**53, 1.0, 1.0)), [0, bits(2.0**53)])
        self.assertEqual(trace(3, middle(1.0, 1.0, 2.0**53)), [0, bits(2.0**53 + 2)])
        self.assertEqual(trace(3, middle(1.0, 2.0**53, 1.0)), [0, bits(2.0**53)])

    def test_a_step_on_the_way_that_is_not_finite(self):
        great, small = GREATEST, GREATEST | SIGN
        self.assertEqual(trace(3, [great, 0, 0, 0, great, 0, 0, 0, small]), [-3])
        self.assertEqual(trace(3, [great, 0, 0, 0, small, 0, 0, 0, great]), [0, great])
        # Beside the middle nothing is added.
        self.assertEqual(trace(2, [great, great, great, small]), [0, ZERO])

    def test_sizes_and_counts(self):
        for bad in BAD_SIZES:
            for row in ([], [ONE], [INFINITE] * 289):
                self.assertEqual(trace(bad, row), [-1])
        for n in range(1, 6):
            row = [ONE] * (n * n)
            for bad in (row[1:], row + [ONE], [], [INFINITE] * (n * n + 1)):
                self.assertEqual(trace(n, bad), [-1])

    def test_not_finite(self):
        for bad in NOT_FINITE:
            for k in range(9):
                row = [GREATEST] * 9
                row[k] = bad
                self.assertEqual(trace(3, row), [-2])
        self.assertEqual(trace(3, [GREATEST] * 9), [-3])


class NothingKept(unittest.TestCase):
    def test_nothing_handed_in_is_changed(self):
        for row in (all_bits([1.5, -2.5, 3.5, 0.1]), [ONE] * 3, [INFINITE] * 4, [GREATEST] * 4):
            a, x, b = list(row), list(row), list(row)
            calls = (lambda: times(2, 2, 2, a, b), lambda: rest(2, 2, 2, a, x, b), lambda: trace(2, a))
            for call in calls:
                first = call()
                self.assertEqual((a, x, b), (row, row, row))
                kept = list(first)
                first.append(7)
                self.assertEqual(call(), kept)

    def test_the_same_list_handed_in_everywhere(self):
        a = all_bits([1.0, 2.0, 3.0, 4.0])
        self.assertEqual(times(2, 2, 2, a, a), [0, 4] + all_bits([7.0, 10.0, 15.0, 22.0]))
        self.assertEqual(rest(2, 2, 2, a, a, a), [0, 4] + all_bits([-6.0, -8.0, -12.0, -18.0]))
        self.assertEqual(a, all_bits([1.0, 2.0, 3.0, 4.0]))


if __name__ == "__main__":
    unittest.main()
