"""chol: the told order, +0 above the middle, and a -4 where a root would be of what isn't above 0."""

from doubletables.tables import chol
from tests.given import (
    GREATEST, INFINITE, LEAST, MINUS_ZERO, NOT_FINITE, ONE, SIGN, ZERO, all_bits, bits, near_doubles, value_of,
    wide_doubles,
)
from tests.other import answer, chol_words
from tests.refusing import CallCase
from tests.squares import GREAT, by_rows, side_of, squares


def counts(n):
    return [n * n]


def above_nought(n, seed, spread):
    """g times g flipped, and more in the middle: chol can be made of most of these."""
    g = [value_of(x) for x in near_doubles(seed, n * n, spread)]
    a = [
        bits(sum(g[i * n + k] * g[j * n + k] for k in range(n)) + (0.5 if i == j else 0.0))
        for i in range(n) for j in range(n)
    ]
    above = wide_doubles(seed, n * n)
    return [above[i * n + j] if j > i else a[i * n + j] for i in range(n) for j in range(n)]


NOT_ABOVE = (
    [ZERO], [MINUS_ZERO], all_bits([-1.0]), [LEAST | SIGN],
    by_rows([0.0, 1.0], [1.0, 1.0]), by_rows([-0.0, 1.0], [1.0, 1.0]),
    by_rows([1.0, 0.0], [1.0, 1.0]), by_rows([1.0, 0.0], [2.0, 1.0]), by_rows([1.0, 0.0], [0.0, -0.0]),
    by_rows([4.0, 0.0], [2.0, 1.0]), by_rows([1.0, 9.0], [0.0, 0.0]),
    by_rows([1.0, 0.0, 0.0], [1.0, 2.0, 0.0], [1.0, 1.0, 1.0]),
    by_rows([1.0, 0.0, 0.0], [1.0, 2.0, 0.0], [1.0, 2.0, 2.0]),
    by_rows([1.0, 0.0, 0.0], [0.0, 0.0, 0.0], [0.0, 0.0, 1.0]),
)


class Chol(CallCase):
    def gives(self, n, a, x):
        self.assertEqual(chol(n, a), [0, n * n] + x)

    def test_by_hand(self):
        self.gives(1, [bits(2.0)], [bits(2.0**0.5)])
        self.gives(2, by_rows([4.0, 2.0], [2.0, 5.0]), by_rows([2.0, 0.0], [1.0, 2.0]))
        a = by_rows([4.0, 12.0, -16.0], [12.0, 37.0, -43.0], [-16.0, -43.0, 98.0])
        self.gives(3, a, by_rows([2.0, 0.0, 0.0], [6.0, 1.0, 0.0], [-8.0, 5.0, 3.0]))

    def test_all_sizes(self):
        outcomes = set()
        for n in range(1, 6):
            for seed in range(20):
                tables = squares(n, 30 * seed + n)
                tables += [above_nought(n, 10 * seed + spread, spread) for spread in (0, 1, 3, 10)]
                for a in tables:
                    expected = answer(chol_words, n, a)
                    self.assertEqual(chol(n, a), expected, (n, a))
                    outcomes.add((n, expected[0]))
        for n in range(2, 6):
            self.assertLessEqual({(n, 0), (n, -4)}, outcomes)

    def test_the_greatest_size(self):
        a = above_nought(16, 3, 1)
        self.assertEqual(chol(16, a), answer(chol_words, 16, a))
        self.assertEqual(chol(16, a)[0], 0)

    def test_above_the_middle_nothing_counts(self):
        below = by_rows([4.0, 0.0, 0.0], [2.0, 5.0, 0.0], [6.0, -1.0, 30.0])
        expected = chol(3, below)
        self.assertEqual(expected[0], 0)
        for x in (ZERO, MINUS_ZERO, GREATEST, GREATEST | SIGN, LEAST, bits(-3.0)):
            a = list(below)
            a[1] = a[2] = a[5] = x
            self.assertEqual(chol(3, a), expected)
            self.assertEqual([chol(3, a)[2 + k] for k in (1, 2, 5)], [ZERO] * 3)

    def test_above_the_middle_all_have_to_be_finite(self):
        for k in (1, 2, 5):
            for bad in NOT_FINITE:
                a = by_rows([4.0, 0.0, 0.0], [2.0, 5.0, 0.0], [6.0, -1.0, 30.0])
                a[k] = bad
                self.assertEqual(chol(3, a), [-2])
                self.assertEqual(chol(3, [ZERO] + a[1:]), [-2])

    def test_what_is_not_above_nought(self):
        for a in NOT_ABOVE:
            self.assertEqual(chol(side_of(a), a), [-4], a)
        for n in range(1, 6):
            for k in range(n):
                for x in (ZERO, MINUS_ZERO, LEAST | SIGN, ONE | SIGN, GREATEST | SIGN):
                    a = [ONE if i == j else ZERO for i in range(n) for j in range(n)]
                    a[k * n + k] = x
                    self.assertEqual(chol(n, a), [-4])
                    a[k * n + k] = LEAST
                    self.assertEqual(chol(n, a)[0], 0)

    def test_the_order_below_the_middle(self):
        # 2^53 - 2^52 comes first, so that .5625 is rounded to .5 and not to 1.
        far = 2.0**52
        a = by_rows([1.0, 0.0, 0.0, 0.0], [0.0, 1.0, 0.0, 0.0], [1.0, 1.0, 3.0, 0.0], [far, 0.5625, 2 * far, 2.0**110])
        self.assertEqual(chol(4, a)[2 + 14], bits(far - 0.5))
        b = by_rows([1.0, 0.0, 0.0, 0.0], [0.0, 1.0, 0.0, 0.0], [1.0, 1.0, 3.0, 0.0], [0.5625, far, 2 * far, 2.0**110])
        self.assertEqual(chol(4, b)[2 + 14], bits(far - 1.0))

    def test_each_step_is_rounded_once(self):
        # 1 + 2^-29 + 2^-52 less the square of 1 + 2^-30: rounded by itself the square would leave 2^-52.
        x, y = 1.0 + 2.0**-30, 1.0 + 2.0**-29 + 2.0**-52
        self.gives(2, by_rows([1.0, 0.0], [x, y]), by_rows([1.0, 0.0], [x, (2.0**-52 - 2.0**-60)**0.5]))
        self.assertEqual(chol(2, by_rows([1.0, 0.0], [x, 1.0 + 2.0**-29])), [-4])

    def test_a_step_that_is_not_finite(self):
        tiny = 2.0**-1000
        self.assertEqual(chol(2, by_rows([tiny, 0.0], [2.0**1000, 1.0])), [-3])
        self.assertEqual(chol(2, by_rows([tiny, 0.0], [-(2.0**1000), 1.0])), [-3])
        # Below 0 beyond the greatest is -3, not -4.
        self.assertEqual(chol(2, by_rows([1.0, 0.0], [2.0**600, 1.0])), [-3])
        self.assertEqual(chol(2, by_rows([1.0, 0.0], [2.0**511, 1.0])), [-4])
        self.assertEqual(
            chol(3, by_rows([1.0, 0.0, 0.0], [2.0, 5.0, 0.0], [GREAT, 1.0, 1.0])), [-3])

    def test_which_refusal_comes_first(self):
        tiny = 2.0**-1000
        self.assertEqual(chol(2, by_rows([tiny, 0.0], [2.0**1000, -1.0])), [-3])
        self.assertEqual(chol(3, by_rows([tiny, 0.0, 0.0], [0.0, -1.0, 0.0], [2.0**1000, 0.0, 1.0])), [-3])
        self.assertEqual(chol(2, by_rows([0.0, 0.0], [GREAT, GREAT])), [-4])
        self.assertEqual(chol(2, by_rows([-1.0, 0.0], [GREAT, 1.0])), [-4])
        self.assertEqual(chol(3, by_rows([1.0, 0.0, 0.0], [1.0, 1.0, 0.0], [2.0**600, 1.0, 1.0])), [-4])

    def test_zeros(self):
        self.gives(2, by_rows([1.0, 0.0], [-0.0, 1.0]), by_rows([1.0, 0.0], [-0.0, 1.0]))
        # -0 at [2, 1]: F (-0, 0, -0) is -0, F (-0, -0, -0) is +0.
        a = by_rows([1.0, 0.0, 0.0], [0.0, 1.0, 0.0], [0.0, -0.0, 1.0])
        self.gives(3, a, a)
        b = by_rows([1.0, 0.0, 0.0], [-0.0, 1.0, 0.0], [0.0, -0.0, 1.0])
        self.gives(3, b, by_rows([1.0, 0.0, 0.0], [-0.0, 1.0, 0.0], [0.0, 0.0, 1.0]))

    def test_refusals_ahead_of_the_steps(self):
        self.refuses_sizes(chol, 1, counts)
        for n in range(1, 6):
            self.refuses_counts(chol, (n,), counts)
            self.refuses_not_finite(chol, (n,), counts, ZERO)
        self.refuses_not_finite(chol, (3,), counts, GREATEST)

    def test_nothing_is_kept(self):
        for a in (all_bits([1.5, -2.5, 0.5, 1.0]), [ZERO] * 4, [ONE, 0, GREATEST, ONE], [INFINITE] * 4, [ONE] * 3):
            self.keeps_nothing(lambda numbers: chol(2, numbers), [a])
