"""sum_of, less, scaled and flipped: each [i, j] one step, and the refusals in their order."""

import unittest

from doubletables.tables import flipped, less, scaled, sum_of
from tests.given import (
    BAD_SIZES, GREATEST, INFINITE, LEAST, LEAST_NORMAL, MINUS_ZERO, NOT_FINITE, ONE, SIGN, ZERO, all_bits, bits,
    near_doubles, other_step, short_doubles, told, wide_doubles,
)

SIZES = [(m, n) for m in range(1, 6) for n in range(1, 6)]
TWO = bits(2.0)


def tables_of(count, seed):
    return [
        (near_doubles(seed, count, 20), near_doubles(seed + 1, count, 20)),
        (short_doubles(seed + 2, count), short_doubles(seed + 3, count)),
        (wide_doubles(seed + 4, count), wide_doubles(seed + 5, count)),
    ]


class Told(unittest.TestCase):
    def test_by_hand(self):
        a, b = all_bits([1.0, 2.0, 3.0, 4.0, 5.0, 6.0]), all_bits([10.0, 20.0, 30.0, 40.0, 50.0, 0.5])
        self.assertEqual(sum_of(2, 3, a, b), [0, 6] + all_bits([11.0, 22.0, 33.0, 44.0, 55.0, 6.5]))
        self.assertEqual(less(2, 3, a, b), [0, 6] + all_bits([-9.0, -18.0, -27.0, -36.0, -45.0, 5.5]))
        self.assertEqual(scaled(3, 2, bits(-0.5), a), [0, 6] + all_bits([-0.5, -1.0, -1.5, -2.0, -2.5, -3.0]))
        self.assertEqual(flipped(2, 3, a), [0, 6] + all_bits([1.0, 4.0, 2.0, 5.0, 3.0, 6.0]))
        self.assertEqual(flipped(3, 2, a), [0, 6] + all_bits([1.0, 3.0, 5.0, 2.0, 4.0, 6.0]))

    def test_all_sizes(self):
        for m, n in SIZES:
            for a, b in tables_of(m * n, 10 * m + n):
                pairs = list(zip(a, b))
                self.assertEqual(sum_of(m, n, a, b), told([other_step(0, x, y, ZERO) for x, y in pairs]))
                self.assertEqual(less(m, n, a, b), told([other_step(1, x, y, ZERO) for x, y in pairs]))
                self.assertEqual(scaled(m, n, b[0], a), told([other_step(2, x, b[0], ZERO) for x in a]))
                self.assertEqual(flipped(m, n, a), told([a[i * n + j] for j in range(n) for i in range(m)]))

    def test_the_greatest_size(self):
        a = near_doubles(77, 256, 20)
        self.assertEqual(sum_of(16, 16, a, a), told([other_step(0, x, x, ZERO) for x in a]))
        self.assertEqual(flipped(16, 16, a), told([a[i * 16 + j] for j in range(16) for i in range(16)]))

    def test_zeros(self):
        zeros = [ZERO, ZERO, MINUS_ZERO, MINUS_ZERO]
        others = [ZERO, MINUS_ZERO, ZERO, MINUS_ZERO]
        self.assertEqual(sum_of(2, 2, zeros, others), [0, 4, ZERO, ZERO, ZERO, MINUS_ZERO])
        self.assertEqual(less(2, 2, zeros, others), [0, 4, ZERO, ZERO, MINUS_ZERO, ZERO])
        self.assertEqual(scaled(2, 2, ONE, others), [0, 4] + others)
        self.assertEqual(scaled(2, 2, ONE | SIGN, others), [0, 4, MINUS_ZERO, ZERO, MINUS_ZERO, ZERO])
        self.assertEqual(scaled(1, 2, MINUS_ZERO, [ONE, ONE | SIGN]), [0, 2, MINUS_ZERO, ZERO])

    def test_flipped_bit_for_bit(self):
        a = [MINUS_ZERO, LEAST, LEAST | SIGN, ZERO, LEAST_NORMAL - 1, GREATEST | SIGN]
        self.assertEqual(
            flipped(2, 3, a), [0, 6, MINUS_ZERO, ZERO, LEAST, LEAST_NORMAL - 1, LEAST | SIGN, GREATEST | SIGN])
        for m, n in SIZES:
            table = ([MINUS_ZERO, LEAST, 2, LEAST | SIGN, ZERO, LEAST_NORMAL - 1, GREATEST] * 4)[:m * n]
            self.assertEqual(flipped(n, m, flipped(m, n, table)[2:]), [0, m * n] + table)


class Refusals(unittest.TestCase):
    def calls(self, m, n, a, b, x):
        return [sum_of(m, n, a, b), less(m, n, a, b), scaled(m, n, x, a), flipped(m, n, a)]

    def all_refuse(self, m, n, a, b, x, number):
        self.assertEqual(self.calls(m, n, a, b, x), [[number]] * 4, (m, n, a, b, x))

    def test_sizes(self):
        for bad in BAD_SIZES:
            for row in ([], [ONE], [ONE] * 17, [INFINITE] * 17):
                self.all_refuse(bad, 1, row, row, ONE, -1)
                self.all_refuse(1, bad, row, row, ONE, -1)
                self.all_refuse(bad, bad, row, row, ONE, -1)

    def test_counts(self):
        for m, n in SIZES:
            good = [ONE] * (m * n)
            for bad in (good[1:], good + [ONE], [], [INFINITE] * (m * n + 1), good * 2):
                self.all_refuse(m, n, bad, bad, ONE, -1)
                self.all_refuse(m, n, bad, bad, INFINITE, -1)
                for call in (sum_of, less):
                    self.assertEqual(call(m, n, good, bad), [-1])
                    self.assertEqual(call(m, n, bad, good), [-1])
                    self.assertEqual(call(m, n, [INFINITE] * (m * n), bad), [-1])

    def test_not_finite_in_each_place(self):
        for k in range(6):
            for bad in NOT_FINITE:
                row = [ONE] * 6
                row[k] = bad
                self.all_refuse(2, 3, row, row, ONE, -2)
                for call in (sum_of, less):
                    self.assertEqual(call(2, 3, [ONE] * 6, row), [-2])
                    self.assertEqual(call(2, 3, row, [ONE] * 6), [-2])
        for bad in NOT_FINITE:
            self.assertEqual(scaled(2, 3, bad, [ONE] * 6), [-2])

    def test_not_finite_comes_ahead_of_a_step_that_is_not(self):
        self.assertEqual(sum_of(1, 2, [GREATEST, ONE], [GREATEST, INFINITE]), [-2])
        self.assertEqual(less(1, 2, [GREATEST, INFINITE], [GREATEST | SIGN, ONE]), [-2])
        self.assertEqual(scaled(1, 2, TWO, [GREATEST, INFINITE]), [-2])

    def test_a_step_that_is_not_finite(self):
        for k in range(4):
            row = [ONE] * 4
            row[k] = GREATEST
            self.assertEqual(sum_of(2, 2, row, row), [-3])
            self.assertEqual(less(2, 2, row, [x | SIGN for x in row]), [-3])
            self.assertEqual(scaled(2, 2, TWO, row), [-3])
            self.assertEqual(less(2, 2, row, row), [0, 4] + [ZERO] * 4)


class NothingKept(unittest.TestCase):
    def test_nothing_handed_in_is_changed(self):
        for row in (all_bits([1.5, -2.5, 3.5, 0.1]), [ONE] * 3, [INFINITE] * 4, [GREATEST] * 4):
            a, b = list(row), list(row)
            answers = [sum_of(2, 2, a, b), less(2, 2, a, b), scaled(2, 2, TWO, a), flipped(2, 2, a)]
            self.assertEqual((a, b), (row, row))
            again = [sum_of(2, 2, a, b), less(2, 2, a, b), scaled(2, 2, TWO, a), flipped(2, 2, a)]
            self.assertEqual(answers, again)

    def test_what_is_done_to_an_answer_is_not_seen_later(self):
        a = all_bits([1.0])
        for call in (lambda: flipped(1, 1, a), lambda: sum_of(1, 1, a, a), lambda: flipped(0, 1, a)):
            first = call()
            kept = list(first)
            first.append(7)
            first[0] = 9
            self.assertEqual(call(), kept)
        self.assertEqual(a, all_bits([1.0]))

    def test_the_same_list_handed_in_twice(self):
        a = all_bits([1.0, 2.0])
        self.assertEqual(sum_of(1, 2, a, a), [0, 2] + all_bits([2.0, 4.0]))
        self.assertEqual(a, all_bits([1.0, 2.0]))


if __name__ == "__main__":
    unittest.main()
