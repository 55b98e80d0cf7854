"""solve and refined: the told order of steps behind lu, and the refusals in their order."""

import itertools

from doubletables.tables import refined, solve
from tests.given import (
    GREATEST, INFINITE, LEAST_NORMAL, MINUS_ZERO, ONE, SIGN, ZERO, all_bits, bits, near_doubles, short_doubles,
    small_doubles, wide_doubles,
)
from tests.other import answer, refined_words, solve_words
from tests.refusing import CallCase
from tests.squares import GREAT, NOUGHT_AHEAD, NOUGHT_COLUMNS, OVER_AHEAD, by_rows, side_of

SIZES = list(itertools.product(range(1, 6), repeat=2))
FAR = 2.0**53


def counts(n, m):
    return [n * n, n * m]


def pairs(n, m, seed):
    return [
        (near_doubles(seed, n * n, 20), near_doubles(seed + 1, n * m, 20)),
        (near_doubles(seed, n * n, 1), near_doubles(seed + 1, n * m, 1)),
        (short_doubles(seed, n * n), short_doubles(seed + 1, n * m)),
        (small_doubles(seed, n * n), small_doubles(seed + 1, n * m)),
        (wide_doubles(seed, n * n), wide_doubles(seed + 1, n * m)),
        (near_doubles(seed, n * n, 9), wide_doubles(seed + 1, n * m)),
    ]


class Solve(CallCase):
    def gives(self, n, m, a, b, y):
        self.assertEqual(solve(n, m, a, b), [0, n * m] + y)

    def test_by_hand(self):
        self.gives(1, 1, [bits(4.0)], [bits(-6.0)], [bits(-1.5)])
        self.gives(1, 3, [bits(4.0)], all_bits([1.0, 2.0, 4.0]), all_bits([0.25, 0.5, 1.0]))
        a = by_rows([4.0, 2.0, 1.0], [2.0, 1.0, 3.0], [1.0, 2.0, 2.0])
        b = by_rows([11.0, 4.0], [13.0, 2.0], [11.0, 1.0])
        self.gives(3, 2, a, b, by_rows([1.0, 1.0], [2.0, 0.0], [3.0, 0.0]))

    def test_rows_as_p_says(self):
        for p in itertools.permutations(range(3)):
            a = [bits(2.0) if p[i] == j else ZERO for i in range(3) for j in range(3)]
            b = by_rows([1.0, 2.0], [3.0, 4.0], [5.0, 6.0])
            y = [0.0] * 6
            for i in range(3):
                y[p[i] * 2:p[i] * 2 + 2] = [i + 0.5, i + 1.0]
            self.gives(3, 2, a, b, all_bits(y))

    def test_all_sizes(self):
        outcomes = set()
        for n, m in SIZES:
            for seed in range(6):
                for a, b in pairs(n, m, 100 * seed + 10 * n + m):
                    expected = answer(solve_words, n, m, a, b)
                    self.assertEqual(solve(n, m, a, b), expected, (n, m, a, b))
                    outcomes.add(expected[0])
        self.assertEqual(outcomes, {0, -3, -4})

    def test_the_greatest_size(self):
        a, b = near_doubles(5, 256, 9), near_doubles(6, 48, 9)
        self.assertEqual(solve(16, 3, a, b), answer(solve_words, 16, 3, a, b))

    def test_the_order_going_down(self):
        a = by_rows([1.0, 0.0, 0.0], [0.0, 1.0, 0.0], [-1.0, -1.0, 1.0])
        self.gives(3, 1, a, all_bits([FAR, 1.0, 1.0]), all_bits([FAR, 1.0, FAR]))
        self.gives(3, 1, a, all_bits([1.0, FAR, 1.0]), all_bits([1.0, FAR, FAR + 2]))

    def test_the_order_going_up(self):
        a = by_rows([1.0, -1.0, -1.0], [0.0, 1.0, 0.0], [0.0, 0.0, 1.0])
        self.gives(3, 1, a, all_bits([1.0, FAR, 1.0]), all_bits([FAR, FAR, 1.0]))
        self.gives(3, 1, a, all_bits([1.0, 1.0, FAR]), all_bits([FAR + 2, 1.0, FAR]))

    def test_it_is_divided_behind_the_rest(self):
        # (1 - 1/3 3) / 3, F rounded once: divided first it would be another number.
        third = 1.0 / 3.0
        a = by_rows([3.0, third], [0.0, 1.0])
        self.gives(2, 1, a, all_bits([1.0, 3.0]), [bits(2.0**-54 / 3.0), bits(3.0)])

    def test_refusals_as_lu_gives_them(self):
        for a in NOUGHT_COLUMNS + NOUGHT_AHEAD:
            n = side_of(a)
            for m in (1, 2, n):
                for x in (ONE, ZERO, GREATEST):
                    self.assertEqual(solve(n, m, a, [x] * (n * m)), [-4])
        self.assertEqual(solve(3, 2, OVER_AHEAD, [ONE] * 6), [-3])

    def test_a_step_behind_lu_that_is_not_finite(self):
        self.assertEqual(solve(1, 1, [LEAST_NORMAL], [GREATEST]), [-3])
        self.assertEqual(solve(1, 3, [bits(0.5)], [ONE, ONE, GREATEST | SIGN]), [-3])
        down = by_rows([1.0, 0.0], [1.0, 1.0])
        self.assertEqual(solve(2, 1, down, [GREATEST, GREATEST | SIGN]), [-3])
        self.gives(2, 1, down, [GREATEST, GREATEST], [GREATEST, ZERO])
        up = by_rows([1.0, 1.0], [0.0, 1.0])
        self.assertEqual(solve(2, 1, up, [GREATEST | SIGN, GREATEST]), [-3])
        self.assertEqual(solve(2, 2, up, [ONE, GREATEST | SIGN, ONE, GREATEST]), [-3])
        # A step on the way, though what comes behind would bring it back.
        back = by_rows([1.0, -1.0, 1.0], [0.0, 1.0, 0.0], [0.0, 0.0, 1.0])
        self.assertEqual(solve(3, 1, back, [GREATEST] * 3), [-3])

    def test_zeros(self):
        self.gives(1, 2, [ONE], [MINUS_ZERO, ZERO], [MINUS_ZERO, ZERO])
        self.gives(1, 2, [ONE | SIGN], [MINUS_ZERO, ZERO], [ZERO, MINUS_ZERO])
        # F (-0, ..) is a step: with a +0 beside the middle -0 stays -0, with a -0 there it doesn't.
        self.gives(2, 1, by_rows([1.0, 0.0], [0.0, 1.0]), [MINUS_ZERO, ONE], [MINUS_ZERO, ONE])
        self.gives(2, 1, by_rows([1.0, -0.0], [0.0, 1.0]), [MINUS_ZERO, ONE], [ZERO, ONE])
        self.gives(2, 1, by_rows([1.0, 0.0], [-0.0, 1.0]), [ONE, MINUS_ZERO], [ONE, ZERO])

    def test_refusals_ahead_of_the_steps(self):
        self.refuses_sizes(solve, 2, counts)
        for sizes in SIZES:
            self.refuses_counts(solve, sizes, counts)
        for fill in (ZERO, GREATEST):
            self.refuses_not_finite(solve, (2, 3), counts, fill)
            self.refuses_not_finite(solve, (3, 1), counts, fill)

    def test_nothing_is_kept(self):
        for a in (all_bits([1.5, -2.5, 3.5, 0.1]), [ZERO] * 4, [GREATEST] * 4, [INFINITE] * 4, [ONE] * 3):
            self.keeps_nothing(lambda x, y: solve(2, 2, x, y), [a, a])
        same = all_bits([1.0, 2.0, 3.0, 4.0])
        self.assertEqual(solve(2, 2, same, same), solve(2, 2, same, list(same)))


class Refined(CallCase):
    def gives(self, n, m, many, a, b, y):
        self.assertEqual(refined(n, m, many, a, b), [0, n * m] + y)

    def test_all_sizes(self):
        outcomes = set()
        for n, m in SIZES:
            for many in (0, 1, 2, 3, 5):
                for a, b in pairs(n, m, 100 * many + 10 * n + m):
                    expected = answer(refined_words, n, m, many, a, b)
                    self.assertEqual(refined(n, m, many, a, b), expected, (n, m, many, a, b))
                    outcomes.add(expected[0])
        self.assertEqual(outcomes, {0, -3, -4})

    def test_none_is_as_solve(self):
        for n, m in SIZES:
            for a, b in pairs(n, m, 7 * n + m):
                self.assertEqual(refined(n, m, 0, a, b), solve(n, m, a, b))

    def test_many_times(self):
        for n, m, many in ((2, 3, 12), (3, 1, 12), (4, 2, 12), (2, 1, 64), (1, 1, 64)):
            a, b = near_doubles(n, n * n, 3), near_doubles(many, n * m, 3)
            self.assertEqual(refined(n, m, many, a, b), answer(refined_words, n, m, many, a, b))

    def test_each_time_counts(self):
        # Rows that are nearly the same: what solve leaves over is made up for, time by time.
        a = [bits(1.0 / (i + j + 1)) for i in range(5) for j in range(5)]
        told = [refined(5, 1, many, a, [ONE] * 5) for many in range(4)]
        self.assertEqual(told, [answer(refined_words, 5, 1, many, a, [ONE] * 5) for many in range(4)])
        self.assertEqual(len({tuple(numbers) for numbers in told}), 4)

    def test_no_time_is_left_out_where_nothing_is_left(self):
        # -0 + 0 is +0: so the first time can be seen, though the rest is 0.
        self.gives(1, 1, 0, [ONE], [MINUS_ZERO], [MINUS_ZERO])
        for many in (1, 2, 12):
            self.gives(1, 1, many, [ONE], [MINUS_ZERO], [ZERO])

    def test_too_many(self):
        for many in (65, 66, 300, 2**32, 2**64 - 1):
            for x in (ONE, ZERO, GREATEST, INFINITE):
                self.assertEqual(refined(1, 1, many, [x], [x]), [-1])
                self.assertEqual(refined(2, 3, many, [x] * 4, [x] * 6), [-1])
                self.assertEqual(refined(2, 3, many, [x] * 4, [x] * 5), [-1])

    def test_a_step_on_the_way_that_is_not_finite(self):
        # Solved it is finite, but the rest begins with 1 y + b, which isn't.
        a, b = by_rows([1.0, 0.9 * GREAT], [0.0, 1.0]), all_bits([GREAT, 2.0])
        self.assertEqual(refined(2, 1, 0, a, b), solve(2, 1, a, b))
        self.assertEqual(solve(2, 1, a, b)[0], 0)
        for many in (1, 2, 12):
            self.assertEqual(refined(2, 1, many, a, b), [-3])

    def test_refusals_as_lu_gives_them(self):
        for many in (0, 1, 12):
            for a in NOUGHT_COLUMNS + NOUGHT_AHEAD:
                n = side_of(a)
                self.assertEqual(refined(n, 2, many, a, [GREATEST] * (2 * n)), [-4])
            self.assertEqual(refined(3, 2, many, OVER_AHEAD, [ONE] * 6), [-3])

    def test_refusals_ahead_of_the_steps(self):
        for many in (0, 1, 12):
            def call(n, m, a, b):
                return refined(n, m, many, a, b)
            self.refuses_sizes(call, 2, counts)
            for fill in (ZERO, GREATEST):
                self.refuses_not_finite(call, (2, 3), counts, fill)
                self.refuses_not_finite(call, (3, 1), counts, fill)
        for n, m in SIZES:
            self.refuses_counts(lambda n, m, a, b: refined(n, m, 1, a, b), (n, m), counts)

    def test_nothing_is_kept(self):
        for a in (all_bits([1.5, -2.5, 3.5, 0.1]), [ZERO] * 4, [GREATEST] * 4, [INFINITE] * 4, [ONE] * 3):
            for many in (0, 3, 65):
                self.keeps_nothing(lambda x, y: refined(2, 2, many, x, y), [a, a])
