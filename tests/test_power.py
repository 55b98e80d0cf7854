"""power: what is multiplied, on which side, and no t that isn't needed."""

from doubletables.tables import power, times
from tests.given import (
    GREATEST, INFINITE, LEAST, MINUS_ZERO, NOT_FINITE, ONE, SIGN, ZERO, all_bits, bits, near_doubles, short_doubles,
    small_doubles, value_of, wide_doubles,
)
from tests.other import answer, power_words, unit
from tests.refusing import CallCase
from tests.squares import by_rows

MOST = 2**64 - 1
TWO = bits(2.0)


def counts(n):
    return [n * n]


def shrunk(n, seed):
    """Numbers so small that rows' sums stay below 1: no power is beyond the greatest."""
    return [bits(value_of(x) / (4.0 * n)) for x in near_doubles(seed, n * n, 1)]


class Power(CallCase):
    def gives(self, n, k, a, s):
        self.assertEqual(power(n, k, a), [0, n * n] + s)

    def test_by_hand(self):
        a = by_rows([1.0, 1.0], [1.0, 0.0])
        self.gives(2, 0, a, unit(2))
        self.gives(2, 1, a, a)
        self.gives(2, 2, a, by_rows([2.0, 1.0], [1.0, 1.0]))
        self.gives(2, 3, a, by_rows([3.0, 2.0], [2.0, 1.0]))
        self.gives(2, 10, a, by_rows([89.0, 55.0], [55.0, 34.0]))
        self.gives(2, 17, a, by_rows([2584.0, 1597.0], [1597.0, 987.0]))
        self.gives(1, 5, [bits(-3.0)], [bits(-243.0)])

    def test_all_sizes(self):
        outcomes = set()
        for n in range(1, 6):
            for k in list(range(20)) + [31, 32, 33, 63, 64, 100, 1023, 1024]:
                for a in (
                    near_doubles(n + k, n * n, 2), short_doubles(k, n * n), small_doubles(k, n * n),
                    wide_doubles(k, n * n), shrunk(n, k),
                ):
                    expected = answer(power_words, n, k, a)
                    self.assertEqual(power(n, k, a), expected, (n, k, a))
                    outcomes.add(expected[0])
        self.assertEqual(outcomes, {0, -3})

    def test_the_greatest_size(self):
        a = shrunk(16, 4)
        self.assertEqual(power(16, 5, a), answer(power_words, 16, 5, a))

    def test_great_numbers(self):
        turn = by_rows([0.0, -1.0], [1.0, 0.0])
        for k in (2**32, 2**53 + 1, 2**63 - 1, 2**63, 2**63 + 1, MOST - 1, MOST):
            for a in (turn, all_bits([1.0, 2.0**-60, 0.0, 1.0]), shrunk(2, 3), all_bits([0.5, 0.5, 0.5, 0.5])):
                self.assertEqual(power(2, k, a), answer(power_words, 2, k, a))
            self.gives(1, k, [ONE | SIGN], [ONE | SIGN if k % 2 else ONE])
            self.assertEqual(power(1, k, [TWO]), [-3])
            self.gives(1, k, [bits(0.5)], [ZERO])
        self.gives(2, MOST, by_rows([1.0, 1.0], [0.0, 1.0]), by_rows([1.0, 2.0**64], [0.0, 1.0]))

    def test_on_which_side(self):
        for n in (2, 3, 4):
            a = near_doubles(n, n * n, 3)

            def by(x, y):
                return times(n, n, n, x, y)[2:]

            first = by(unit(n), a)
            second = by(a, a)
            fourth = by(second, second)
            self.gives(n, 2, a, by(unit(n), second))
            self.gives(n, 3, a, by(first, second))
            self.gives(n, 5, a, by(first, fourth))
            self.gives(n, 6, a, by(by(unit(n), second), fourth))
            self.gives(n, 7, a, by(by(first, second), fourth))
        # On the other side, or one by one, it would be another table.
        self.assertNotEqual(by(first, second), by(second, first))
        self.assertNotEqual(by(first, fourth), by(fourth, first))

    def test_no_t_behind_the_last(self):
        self.gives(1, 1, [GREATEST], [GREATEST])
        self.gives(2, 1, [GREATEST] * 4, [GREATEST] * 4)
        self.gives(1, 512, [TWO], [bits(2.0**512)])
        self.gives(1, 1023, [TWO], [bits(2.0**1023)])
        self.assertEqual(power(1, 1024, [TWO]), [-3])
        self.gives(2, 2, all_bits([2.0**511, 0.0, 0.0, 1.0]), all_bits([2.0**1022, 0.0, 0.0, 1.0]))
        self.assertEqual(power(2, 2, [GREATEST] * 4), [-3])

    def test_a_t_that_is_needed_later(self):
        # 2^600 squared is beyond the greatest, though s is small till then.
        self.assertEqual(power(1, 2, [bits(2.0**600)]), [-3])
        self.assertEqual(power(1, 4, [bits(2.0**300)]), [-3])
        self.gives(1, 3, [bits(2.0**300)], [bits(2.0**900)])

    def test_zeros(self):
        # Times the table of 1 in the middle is a step as told: from +0 on, -0 becomes +0.
        self.gives(1, 1, [MINUS_ZERO], [ZERO])
        self.gives(2, 1, [ONE, MINUS_ZERO, MINUS_ZERO, ONE], unit(2))
        self.gives(1, 0, [MINUS_ZERO], [ONE])
        self.gives(1, 3, [LEAST | SIGN], [ZERO])
        self.gives(1, 2, [LEAST | SIGN], [ZERO])
        self.gives(1, 3, all_bits([-(2.0**-400)]), [MINUS_ZERO])

    def test_k_is_not_a_size(self):
        for k in (0, 6, 16, 17, 18, 300, 2**32, MOST):
            self.gives(1, k, [ONE], [ONE])
            self.gives(3, k, unit(3), unit(3))

    def test_refusals_ahead_of_the_steps(self):
        for k in (0, 1, 2, 17, MOST):
            def call(n, a):
                return power(n, k, a)
            self.refuses_sizes(call, 1, counts)
            for n in (1, 2, 5):
                self.refuses_counts(call, (n,), counts)
            self.refuses_not_finite(call, (2,), counts, GREATEST)
        for bad in NOT_FINITE:
            self.assertEqual(power(1, 0, [bad]), [-2])

    def test_nothing_is_kept(self):
        for a in (all_bits([1.5, -2.5, 3.5, 0.1]), [GREATEST] * 4, [INFINITE] * 4, [ONE] * 3):
            for k in (0, 1, 2, 7, MOST):
                self.keeps_nothing(lambda numbers: power(2, k, numbers), [a])
