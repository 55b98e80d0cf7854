"""lu and det: the told rows, exchanges, steps and refusals, and promises 3 and 4."""

import itertools

from doubletables.tables import det, lu
from tests.given import (
    GREATEST, INFINITE, LEAST, MINUS_ZERO, ONE, SIGN, ZERO, all_bits, bits, is_minus, near_doubles, other_f,
    other_step, value_of,
)
from tests.other import MULTIPLY, answer, det_words, lu_words
from tests.refusing import CallCase
from tests.squares import GREAT, NOUGHT_AHEAD, NOUGHT_COLUMNS, OVER_AHEAD, by_rows, side_of, squares

UNIT = [1.0, 0.0, 0.0, 0.0, 1.0, 0.0, 0.0, 0.0, 1.0]


def counts(n):
    return [n * n]


class Lu(CallCase):
    def gives(self, n, a, x, p, sign):
        self.assertEqual(lu(n, a), [0, n * n] + x + [n] + p + [sign])

    def test_by_hand(self):
        third = bits(1.0 / 3.0)
        last = other_f(third | SIGN, bits(4.0), bits(2.0))
        self.gives(2, all_bits([1.0, 2.0, 3.0, 4.0]), [bits(3.0), bits(4.0), third, last], [1, 0], -1)
        a = by_rows([4.0, 2.0, 1.0], [2.0, 1.0, 3.0], [1.0, 2.0, 2.0])
        x = by_rows([4.0, 2.0, 1.0], [0.25, 1.5, 1.75], [0.5, 0.0, 2.5])
        self.gives(3, a, x, [0, 2, 1], -1)
        self.gives(1, [bits(-7.0)], [bits(-7.0)], [0], 1)
        self.gives(3, all_bits(UNIT), all_bits(UNIT), [0, 1, 2], 1)

    def test_all_sizes(self):
        outcomes = set()
        for n in range(1, 6):
            for seed in range(25):
                for a in squares(n, 100 * seed + n):
                    expected = answer(lu_words, n, a)
                    self.assertEqual(lu(n, a), expected, (n, a))
                    outcomes.add((expected[0], expected[-1] if expected[0] == 0 else None))
        self.assertEqual(outcomes, {(0, 1), (0, -1), (-3, None), (-4, None)})

    def test_the_greatest_size(self):
        a = near_doubles(5, 256, 9)
        self.assertEqual(lu(16, a), answer(lu_words, 16, a))

    def test_the_first_of_rows_as_great(self):
        a = by_rows([1.0, 5.0, 6.0], [-2.0, 1.0, 0.5], [2.0, 3.0, 1.0])
        self.assertEqual(lu(3, a)[2:5], all_bits([-2.0, 1.0, 0.5]))
        self.assertEqual(lu(3, a)[12:15], [1, 0, 2])
        b = by_rows([-2.0, 0.0, 0.0], [2.0, 1.0, 0.0], [2.0, -1.0, 1.0])
        self.gives(3, b, by_rows([-2.0, 0.0, 0.0], [-1.0, 1.0, 0.0], [-1.0, -1.0, 1.0]), [0, 1, 2], 1)
        # At k = 1, too: there 1 and -1 are as great.
        c = by_rows([1.0, 0.0, 0.0], [0.0, -1.0, 2.0], [0.0, 1.0, 1.0])
        self.gives(3, c, by_rows([1.0, 0.0, 0.0], [0.0, -1.0, 2.0], [0.0, -1.0, 3.0]), [0, 1, 2], 1)

    def test_rows_exchanged_each_way(self):
        for p in itertools.permutations(range(4)):
            # Each row of the unit table times a number of its own: k takes the row with column k.
            a = [ZERO] * 16
            for k, r in enumerate(p):
                a[r * 4 + k] = bits(float(r + 1))
            x = [bits(float(p[i] + 1)) if i == j else ZERO for i in range(4) for j in range(4)]
            inverted = sum(1 for i, j in itertools.combinations(range(4), 2) if p[i] > p[j])
            self.gives(4, a, x, list(p), -1 if inverted % 2 else 1)

    def test_the_tables_promise(self):
        for n in range(1, 6):
            for seed in range(30):
                for a in squares(n, 1000 * seed + n):
                    told = lu(n, a)
                    if told[0] != 0:
                        continue
                    self.assertEqual(sorted(told[n * n + 3:-1]), list(range(n)))
                    self.assertIn(told[-1], (1, -1))
                    for i in range(n):
                        self.assertNotIn(told[2 + i * n + i], (ZERO, MINUS_ZERO))
                        for j in range(i):
                            self.assertLessEqual(abs(value_of(told[2 + i * n + j])), 1.0)

    def test_a_column_of_nought(self):
        for a in NOUGHT_COLUMNS:
            self.assertEqual(lu(side_of(a), a), [-4], a)
        for n in range(2, 6):
            for k in range(n):
                a = near_doubles(n, n * n, 3)
                a[k::n] = [ZERO, MINUS_ZERO, ZERO, MINUS_ZERO, MINUS_ZERO][:n]
                self.assertEqual(lu(n, a), [-4])

    def test_a_step_that_is_not_finite(self):
        self.assertEqual(lu(2, by_rows([1.0, GREAT], [1.0, -GREAT])), [-3])
        self.assertEqual(lu(2, by_rows([1.0, GREAT], [-1.0, GREAT])), [-3])
        # F is rounded once: the product alone may be as great as it likes.
        self.assertEqual(lu(2, by_rows([1.0, GREAT], [1.0, GREAT / 2]))[5], bits(-GREAT / 2))

    def test_which_refusal_comes_first(self):
        self.assertEqual(lu(3, OVER_AHEAD), [-3])
        for a in NOUGHT_AHEAD:
            self.assertEqual(lu(side_of(a), a), [-4], a)

    def test_zeros(self):
        a = by_rows([1.0, 0.0], [-0.0, 1.0])
        self.gives(2, a, a, [0, 1], 1)
        self.gives(2, by_rows([-1.0, 0.0], [0.0, 1.0]), by_rows([-1.0, 0.0], [-0.0, 1.0]), [0, 1], 1)
        # Where a factor is 0 the step is done all the same: -0 + 0 is +0.
        b = by_rows([1.0, 1.0, 0.0], [-0.0, 2.0, -0.0], [0.0, 0.0, 1.0])
        self.gives(3, b, by_rows([1.0, 1.0, 0.0], [-0.0, 2.0, 0.0], [0.0, 0.0, 1.0]), [0, 1, 2], 1)
        self.gives(2, [bits(4.0), ZERO, LEAST | SIGN, ONE], [bits(4.0), ZERO, MINUS_ZERO, ONE], [0, 1], 1)

    def test_refusals_ahead_of_the_steps(self):
        self.refuses_sizes(lu, 1, counts)
        for n in range(1, 6):
            self.refuses_counts(lu, (n,), counts)
            self.refuses_not_finite(lu, (n,), counts, ZERO)
        self.refuses_not_finite(lu, (3,), counts, GREATEST)

    def test_nothing_is_kept(self):
        for a in (all_bits([1.5, -2.5, 3.5, 0.1]), [ZERO] * 4, OVER_AHEAD[:4], [INFINITE] * 4, [ONE] * 3):
            self.keeps_nothing(lambda numbers: lu(2, numbers), [a])


class Det(CallCase):
    def gives(self, n, a, x):
        self.assertEqual(det(n, a), [0, x])

    def middle(self, *numbers):
        n = len(numbers)
        return n, [bits(numbers[i]) if i == j else ZERO for i in range(n) for j in range(n)]

    def test_by_hand(self):
        self.gives(1, [bits(-7.0)], bits(-7.0))
        self.gives(3, all_bits(UNIT), ONE)
        self.gives(3, by_rows([4.0, 2.0, 1.0], [2.0, 1.0, 3.0], [1.0, 2.0, 2.0]), bits(-15.0))
        self.gives(*self.middle(2.0, -3.0, 5.0, 0.5), bits(-15.0))

    def test_all_sizes(self):
        outcomes = set()
        for n in range(1, 6):
            for seed in range(25):
                for a in squares(n, 70 * seed + n):
                    expected = answer(det_words, n, a)
                    self.assertEqual(det(n, a), expected, (n, a))
                    outcomes.add(expected[0])
        self.assertEqual(outcomes, {0, -3})

    def test_nought_where_lu_finds_none(self):
        for a in NOUGHT_COLUMNS + NOUGHT_AHEAD:
            self.gives(side_of(a), a, ZERO)
        self.assertEqual(det(3, OVER_AHEAD), [-3])

    def test_the_sign(self):
        for n in range(1, 5):
            for p in itertools.permutations(range(n)):
                a = [ONE if p[i] == j else ZERO for i in range(n) for j in range(n)]
                inverted = sum(1 for i, j in itertools.combinations(range(n), 2) if p[i] > p[j])
                self.gives(n, a, ONE | SIGN if inverted % 2 else ONE)

    def test_the_order_of_the_product(self):
        great, small = 2.0**1000, 2.0**-1000
        self.gives(*self.middle(great, small, great), bits(great))
        self.assertEqual(det(*self.middle(great, great, small)), [-3])
        self.gives(*self.middle(small, small, great), ZERO)
        self.gives(*self.middle(small, great, small), bits(small))
        self.assertEqual(det(*self.middle(great, great, small, small)), [-3])
        numbers = near_doubles(4, 5, 3)
        expected = ONE
        for x in numbers:
            expected = other_step(MULTIPLY, expected, x, ZERO)
        self.gives(5, [numbers[i] if i == j else ZERO for i in range(5) for j in range(5)], expected)

    def test_a_product_that_is_rounded_to_nought(self):
        tiny = value_of(LEAST)
        self.gives(*self.middle(tiny, 0.5), ZERO)
        self.gives(*self.middle(-tiny, 0.5), MINUS_ZERO)
        self.gives(*self.middle(-tiny, 0.5, -1.0), ZERO)
        self.gives(*self.middle(tiny, 0.5, -1.0), MINUS_ZERO)
        # The sign of the exchanges counts for a product of 0, too.
        self.gives(2, [ZERO, bits(0.5), LEAST, ZERO], MINUS_ZERO)
        self.gives(2, [ZERO, bits(0.5), LEAST | SIGN, ZERO], ZERO)
        self.assertTrue(is_minus(det(2, [ZERO, bits(0.5), LEAST, ZERO])[1]))

    def test_refusals_ahead_of_the_steps(self):
        self.refuses_sizes(det, 1, counts)
        for n in range(1, 6):
            self.refuses_counts(det, (n,), counts)
            self.refuses_not_finite(det, (n,), counts, ZERO)
        self.refuses_not_finite(det, (3,), counts, GREATEST)

    def test_nothing_is_kept(self):
        for a in (all_bits([1.5, -2.5, 3.5, 0.1]), [ZERO] * 4, [GREATEST] * 4, [INFINITE] * 4, [ONE] * 3):
            self.keeps_nothing(lambda numbers: det(2, numbers), [a])
