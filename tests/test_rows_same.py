"""rows and same: rows put in another order, and a comparison of values."""

import itertools
import unittest

from doubletables.tables import rows, same
from tests.given import (
    BAD_SIZES, GREATEST, INFINITE, LEAST, MINUS_ZERO, NOT_FINITE, ONE, SIGN, ZERO, all_bits, near_doubles,
    wide_doubles,
)

SIZES = [(m, n) for m in range(1, 6) for n in range(1, 6)]
VERY_GREAT = (2**32, 2**63, 2**64 - 1)


class Rows(unittest.TestCase):
    def test_by_hand(self):
        a = all_bits([1.0, 2.0, 3.0, 4.0, 5.0, 6.0])
        self.assertEqual(rows(3, 2, a, [2, 0, 1]), [0, 6] + all_bits([5.0, 6.0, 1.0, 2.0, 3.0, 4.0]))
        self.assertEqual(rows(2, 3, a, [1, 0]), [0, 6] + all_bits([4.0, 5.0, 6.0, 1.0, 2.0, 3.0]))

    def test_every_order(self):
        for m in range(1, 5):
            for n in range(1, 4):
                a = wide_doubles(10 * m + n, m * n)
                for p in itertools.permutations(range(m)):
                    expected = [a[p[i] * n + j] for i in range(m) for j in range(n)]
                    self.assertEqual(rows(m, n, a, list(p)), [0, m * n] + expected)

    def test_bit_for_bit(self):
        a = [MINUS_ZERO, LEAST, GREATEST | SIGN, ZERO]
        self.assertEqual(rows(4, 1, a, [3, 2, 1, 0]), [0, 4, ZERO, GREATEST | SIGN, LEAST, MINUS_ZERO])

    def test_not_all_numbers_once(self):
        for m in range(1, 4):
            for p in itertools.product(range(m + 2), repeat=m):
                if sorted(p) != list(range(m)):
                    self.assertEqual(rows(m, 2, [ONE] * (2 * m), list(p)), [-4], p)

    def test_very_great_numbers(self):
        for great in VERY_GREAT + NOT_FINITE:
            for k in range(3):
                p = [0, 1, 2]
                p[k] = great
                self.assertEqual(rows(3, 1, [ONE] * 3, p), [-4])

    def test_sizes_and_counts(self):
        for bad in BAD_SIZES:
            for row in ([], [ONE], [INFINITE] * 17):
                self.assertEqual(rows(bad, 1, row, list(range(len(row)))), [-1])
                self.assertEqual(rows(1, bad, row, [0]), [-1])
        for m, n in SIZES:
            good, p = [ONE] * (m * n), list(range(m))
            for bad in (good[1:], good + [ONE], [], [INFINITE] * (m * n + 1)):
                self.assertEqual(rows(m, n, bad, p), [-1])
            for bad in (p[1:], p + [m], [], p + [0], [m] * (m + 1)):
                self.assertEqual(rows(m, n, good, bad), [-1])
                self.assertEqual(rows(m, n, [INFINITE] * (m * n), bad), [-1])

    def test_not_finite_comes_ahead_of_a_wrong_order(self):
        for bad in NOT_FINITE:
            for k in range(4):
                a = [ONE] * 4
                a[k] = bad
                for p in ([0, 1], [0, 0], [2, 2**64 - 1]):
                    self.assertEqual(rows(2, 2, a, p), [-2])

    def test_nothing_handed_in_is_changed(self):
        for a in (all_bits([1.0, 2.0, 3.0, 4.0]), [INFINITE] * 4, [ONE] * 5):
            for p in ([1, 0], [0, 1], [1, 1], [1]):
                a_given, p_given = list(a), list(p)
                first = rows(2, 2, a_given, p_given)
                self.assertEqual((a_given, p_given), (a, p))
                kept = list(first)
                first.append(3)
                self.assertEqual(rows(2, 2, a_given, p_given), kept)


class Same(unittest.TestCase):
    def test_same(self):
        for m, n in SIZES:
            a = wide_doubles(m * 10 + n, m * n)
            self.assertEqual(same(m, n, a, list(a)), [0, 1])
            self.assertEqual(same(m, n, a, a), [0, 1])

    def test_one_number_differs(self):
        for m, n in SIZES:
            a = near_doubles(m * 10 + n, m * n, 3)
            for k in range(m * n):
                for other in (a[k] ^ 1, a[k] ^ SIGN, ZERO, GREATEST):
                    b = list(a)
                    b[k] = other
                    self.assertEqual(same(m, n, a, b), [0, 0])
                    self.assertEqual(same(m, n, b, a), [0, 0])

    def test_zeros_are_equal(self):
        self.assertEqual(same(1, 1, [ZERO], [MINUS_ZERO]), [0, 1])
        self.assertEqual(same(1, 1, [MINUS_ZERO], [ZERO]), [0, 1])
        self.assertEqual(same(2, 2, [ZERO, MINUS_ZERO] * 2, [MINUS_ZERO, MINUS_ZERO, ZERO, ZERO]), [0, 1])
        self.assertEqual(same(2, 2, [ZERO, MINUS_ZERO] * 2, [MINUS_ZERO, MINUS_ZERO, ZERO, LEAST]), [0, 0])
        self.assertEqual(same(1, 1, [LEAST], [LEAST | SIGN]), [0, 0])
        self.assertEqual(same(1, 1, [MINUS_ZERO], [LEAST | SIGN]), [0, 0])

    def test_sizes_and_counts(self):
        for bad in BAD_SIZES:
            for row in ([], [ONE], [INFINITE] * 17):
                self.assertEqual(same(bad, 1, row, row), [-1])
                self.assertEqual(same(1, bad, row, row), [-1])
        for m, n in SIZES:
            good = [ONE] * (m * n)
            for bad in (good[1:], good + [ONE], [], [INFINITE] * (m * n + 1)):
                self.assertEqual(same(m, n, bad, good), [-1])
                self.assertEqual(same(m, n, good, bad), [-1])
                self.assertEqual(same(m, n, bad, bad), [-1])
                self.assertEqual(same(m, n, [INFINITE] * (m * n), bad), [-1])

    def test_not_finite(self):
        for bad in NOT_FINITE:
            for k in range(6):
                row = [ONE] * 6
                row[k] = bad
                self.assertEqual(same(2, 3, row, row), [-2])
                self.assertEqual(same(2, 3, row, [ZERO] * 6), [-2])
                self.assertEqual(same(2, 3, [ZERO] * 6, row), [-2])

    def test_nothing_handed_in_is_changed(self):
        for a in ([ZERO, ONE], [INFINITE, ONE], [ONE]):
            for b in ([MINUS_ZERO, ONE], [ONE, ONE]):
                a_given, b_given = list(a), list(b)
                first = same(1, 2, a_given, b_given)
                self.assertEqual((a_given, b_given), (a, b))
                self.assertEqual(same(1, 2, a_given, b_given), first)


if __name__ == "__main__":
    unittest.main()
