"""poly: from the last number of c down, times a on this side, and each number added in the middle alone."""

from doubletables.tables import poly, times
from tests.given import (
    GREATEST, INFINITE, LEAST, MINUS_ZERO, NOT_FINITE, ONE, SIGN, ZERO, all_bits, bits, near_doubles, short_doubles,
    small_doubles, wide_doubles,
)
from tests.other import answer, poly_words, unit
from tests.refusing import MOST_NUMBERS, CallCase
from tests.squares import GREAT, by_rows, squares

TWO = bits(2.0)


def counts(n):
    return [n * n]


def rows_of_c(seed, k):
    return [near_doubles(seed, k, 3), small_doubles(seed, k), short_doubles(seed, k), wide_doubles(seed, k)]


def in_middle(n, x):
    return [x if one == ONE else ZERO for one in unit(n)]


class Poly(CallCase):
    def gives(self, n, a, c, s):
        self.assertEqual(poly(n, a, c), [0, n * n] + s, (a, c))

    def as_words(self, n, a, c):
        expected = answer(poly_words, n, a, c)
        self.assertEqual(poly(n, a, c), expected, (n, a, c))
        return expected[0]

    def test_by_hand(self):
        a = by_rows([1.0, 2.0], [3.0, 4.0])
        self.gives(2, a, all_bits([5.0]), by_rows([5.0, 0.0], [0.0, 5.0]))
        self.gives(2, a, all_bits([5.0, 2.0]), by_rows([7.0, 4.0], [6.0, 13.0]))
        self.gives(2, a, all_bits([0.0, 0.0, 1.0]), by_rows([7.0, 10.0], [15.0, 22.0]))
        self.gives(2, a, all_bits([-2.0, -5.0, 1.0]), [ZERO] * 4)
        self.gives(1, all_bits([10.0]), all_bits([1.0, 2.0, 3.0, 4.0]), all_bits([4321.0]))

    def test_all_sizes(self):
        outcomes = set()
        for n in range(1, 6):
            for k in (1, 2, 3, 6):
                for a in squares(n, n + k):
                    for c in rows_of_c(n + 2 * k, k):
                        outcomes.add(self.as_words(n, a, c))
        self.assertEqual(outcomes, {0, -3})

    def test_many_numbers(self):
        for k in (4, 5, 7, 12, 20, 63, 64):
            self.as_words(2, near_doubles(k, 4, 1), near_doubles(k + 1, k, 20))
        self.as_words(16, near_doubles(2, 256, 1), near_doubles(3, 3, 1))

    def test_how_many_numbers(self):
        for k in (1, 63, 64):
            self.gives(1, [ONE], [ONE] * k, [bits(float(k))])
        for k in (0, 65, 66, 100, MOST_NUMBERS):
            for n in (1, 2):
                for fill in (ONE, GREATEST, INFINITE):
                    for own in (ONE, INFINITE):
                        self.assertEqual(poly(n, [fill] * (n * n), [own] * k), [-1])

    def test_one_number(self):
        for n in (1, 2, 3):
            for x in (ZERO, MINUS_ZERO, ONE, LEAST | SIGN, GREATEST):
                for a in squares(n, 1) + [[GREATEST] * (n * n)]:
                    self.gives(n, a, [x], in_middle(n, x))

    def test_on_which_side(self):
        # c[2] a + c[1] in the middle stands ahead of a; the other way round it would be another table.
        a = near_doubles(3, 9, 3)
        c = all_bits([0.0, 0.1, 0.3])
        first = poly(3, a, c[1:])[2:]
        self.gives(3, a, c, times(3, 3, 3, first, a)[2:])
        self.assertNotEqual(times(3, 3, 3, first, a), times(3, 3, 3, a, first))

    def test_from_the_last_down(self):
        # One by one from c[0] up, 1 + 2^53 would be 2^53 first.
        self.gives(1, [ONE], all_bits([-(2.0**53), 2.0**53, 1.0]), [ZERO])
        self.gives(1, [ONE], all_bits([1.0, -(2.0**53), 2.0**53]), [ONE])
        self.gives(1, [ONE], all_bits([2.0**53, 1.0, 1.0]), all_bits([2.0**53 + 2.0]))
        self.gives(1, [ONE], all_bits([1.0, 1.0, 2.0**53]), all_bits([2.0**53]))

    def test_times_is_rounded_ahead_of_the_sum(self):
        # x x is 1 + 2^-29 + 2^-60: by F the rest 2^-60 would be left.
        x = 1.0 + 2.0**-30
        self.gives(1, [bits(x)], all_bits([-x * x, x]), [ZERO])

    def test_zeros(self):
        self.gives(1, [ONE], [MINUS_ZERO], [MINUS_ZERO])
        self.gives(1, [ONE], [MINUS_ZERO, MINUS_ZERO], [ZERO])
        self.gives(1, [ZERO], [MINUS_ZERO, ONE], [ZERO])
        # Times rounds to -0, and so -0 stays -0 with -0 added, and is +0 with +0.
        for x, told in ((MINUS_ZERO, MINUS_ZERO), (ZERO, ZERO), (ONE, ONE)):
            self.gives(1, [LEAST], [x, bits(-0.25)], [told])
        # Beside the middle nothing is added, so -0 is told there.
        for x in (MINUS_ZERO, ZERO, ONE):
            self.gives(2, [ZERO, ZERO, LEAST, ZERO], [x, bits(-0.25)], [x & ~SIGN, ZERO, MINUS_ZERO, x & ~SIGN])

    def test_added_in_the_middle_alone(self):
        a = near_doubles(8, 9, 2)
        s = times(3, 3, 3, in_middle(3, bits(0.7)), a)[2:]
        told = poly(3, a, all_bits([0.3, 0.7]))[2:]
        for place in range(9):
            self.assertEqual(told[place] == s[place], place % 4 != 0)

    def test_refused_on_the_way(self):
        # In times, of the first, a later and the last time.
        self.assertEqual(poly(1, [TWO], [ZERO, GREATEST]), [-3])
        self.assertEqual(poly(1, [bits(2.0**600)], [ONE, ONE, ONE]), [-3])
        self.assertEqual(poly(2, by_rows([GREAT, 0.0], [0.0, 0.0]), [ZERO, ZERO, TWO]), [-3])
        self.assertEqual(poly(2, [ZERO, GREATEST, ZERO, ZERO], [ZERO, TWO]), [-3])
        # In the sum, each j's too.
        self.assertEqual(poly(1, [ONE], [GREATEST, GREATEST]), [-3])
        self.assertEqual(poly(1, [ONE], [GREATEST | SIGN, GREATEST | SIGN]), [-3])
        self.gives(1, [ONE], [GREATEST | SIGN, GREATEST], [ZERO])
        for j in range(3):
            a = [GREATEST if place == 4 * j else ZERO for place in range(9)]
            self.assertEqual(poly(3, a, [GREATEST, ONE]), [-3])
            self.assertEqual(poly(3, a, [GREATEST | SIGN, ONE])[0], 0)
        # What is on the way counts, though it would have come to less.
        self.assertEqual(poly(1, [ZERO], [ONE, GREATEST, GREATEST])[0], 0)
        self.assertEqual(poly(1, [bits(0.9)], [ONE, GREATEST, GREATEST]), [-3])

    def test_refusals_ahead_of_the_steps(self):
        for c in ([ONE], [GREATEST] * 3, [INFINITE] * 2):
            def call(n, a):
                return poly(n, a, c)
            self.refuses_sizes(call, 1, counts)
            for n in (1, 2, 5):
                self.refuses_counts(call, (n,), counts)
            self.refuses_not_finite(call, (2,), counts, GREATEST)

    def test_numbers_of_c_that_are_not_finite(self):
        for k in (1, 2, 5, 64):
            for place in (0, k // 2, k - 1):
                for bad in NOT_FINITE:
                    c = [GREATEST] * k
                    c[place] = bad
                    self.assertEqual(poly(2, [GREATEST] * 4, c), [-2])
                    self.assertEqual(poly(2, [GREATEST] * 3, c), [-1])

    def test_nothing_is_kept(self):
        for a in (all_bits([0.5, -2.5, 3.5, 0.1]), [GREATEST] * 4, [INFINITE] * 4, [ONE] * 3):
            for c in ([], [ONE], all_bits([0.1, 0.2, 0.3]), [INFINITE], [ONE] * 65):
                self.keeps_nothing(lambda numbers, others: poly(2, numbers, others), [a, c])
