"""iterate: the rows told, how it ends, and what is divided by."""

from doubletables.tables import iterate, times
from tests.given import (
    GREATEST, INFINITE, LEAST, LEAST_NORMAL, MINUS_ZERO, NOT_FINITE, ONE, SIGN, ZERO, all_bits, bits, near_doubles,
    short_doubles, small_doubles, value_of, wide_doubles,
)
from tests.other import answer, iterate_words, unit
from tests.refusing import CallCase
from tests.squares import GREAT, by_rows, squares

MOST = 2**64 - 1
TWO = bits(2.0)


def counts(n):
    return [n * n, n]


def starts(n, seed):
    return [
        near_doubles(seed, n, 3), small_doubles(seed, n), wide_doubles(seed, n), short_doubles(seed, n), [ONE] * n,
        [ZERO] * n,
    ]


class Iterate(CallCase):
    def gives(self, n, many, a, x, ended, rows):
        told = [number for row in rows for number in row]
        self.assertEqual(iterate(n, many, a, x), [0, ended, len(told)] + told, (many, a, x))

    def as_words(self, n, many, a, x):
        expected = answer(iterate_words, n, many, a, x)
        self.assertEqual(iterate(n, many, a, x), expected, (n, many, a, x))
        return expected[:2]

    def test_by_hand(self):
        a = by_rows([0.0, 2.0], [4.0, 0.0])
        x = all_bits([1.0, 1.0])
        self.gives(2, 1, a, x, 0, [x])
        self.gives(2, 2, a, x, 0, [x, all_bits([0.5, 1.0])])
        self.gives(2, 3, a, x, 0, [x, all_bits([0.5, 1.0]), all_bits([1.0, 1.0])])
        self.gives(2, 4, a, x, 0, [x, all_bits([0.5, 1.0]), all_bits([1.0, 1.0]), all_bits([0.5, 1.0])])
        self.gives(1, 3, all_bits([-3.0]), all_bits([5.0]), 0, [all_bits([y]) for y in (5.0, -1.0, 1.0)])
        self.gives(
            3, 2, by_rows([1.0, 0.0, 0.0], [0.0, 2.0, 0.0], [0.0, 0.0, -4.0]), all_bits([1.0, 1.0, 1.0]), 0,
            [all_bits([1.0, 1.0, 1.0]), all_bits([0.25, 0.5, -1.0])],
        )

    def test_no_time(self):
        for n in range(1, 6):
            for a in squares(n, n) + [[GREATEST] * (n * n), [ZERO] * (n * n)]:
                for x in starts(n, n) + [[GREATEST] * n]:
                    self.gives(n, 0, a, x, 0, [])

    def test_one_time(self):
        # The row is told as it's handed in, signs of zeros too; z is made, and isn't told.
        for x in ([MINUS_ZERO, ONE], [LEAST | SIGN, ZERO], [GREATEST, ONE]):
            self.gives(2, 1, unit(2), x, 0, [x])
        self.assertEqual(iterate(1, 1, [TWO], [GREATEST]), [-3])

    def test_all_sizes(self):
        outcomes = set()
        for n in range(1, 6):
            for many in (1, 2, 5):
                for a in squares(n, n + many):
                    for x in starts(n, n + 2 * many):
                        outcomes.add(tuple(self.as_words(n, many, a, x)))
        self.assertEqual(outcomes, {(0, 0), (0, 1), (-3,)})

    def test_many_times(self):
        for n, many in ((1, 12), (2, 12), (3, 12), (5, 12), (2, 63), (2, 64), (16, 2)):
            self.assertEqual(self.as_words(n, many, near_doubles(n, n * n, 2), near_doubles(many, n, 2)), [0, 0])
            self.assertEqual(iterate(n, many, near_doubles(n, n * n, 2), near_doubles(many, n, 2))[2], n * many)

    def test_at_most_64_times(self):
        self.gives(1, 64, [TWO], [ONE], 0, [[ONE]] * 64)
        for above in (65, 66, 300, 2**32, MOST):
            for fill in (ZERO, ONE, GREATEST, INFINITE):
                self.assertEqual(iterate(2, above, [fill] * 4, [fill] * 2), [-1])

    def test_ends_by_a_g_that_is_0(self):
        for zero in (ZERO, MINUS_ZERO):
            for n in (1, 2, 3):
                for many in (1, 2, 12):
                    self.gives(n, many, [zero] * (n * n), [ONE] * n, 1, [[ONE] * n])
                    self.gives(n, many, [ONE] * (n * n), [zero] * n, 1, [[zero] * n])
        # x beside the middle alone: one more 0 each time.
        shift = by_rows([0.0, 1.0, 0.0], [0.0, 0.0, 1.0], [0.0, 0.0, 0.0])
        rows = [all_bits(row) for row in ([1.0, 1.0, 1.0], [1.0, 1.0, 0.0], [1.0, 0.0, 0.0])]
        for many in range(6):
            self.gives(3, many, shift, rows[0], 1 if many >= 3 else 0, rows[:many])

    def test_ends_by_what_is_rounded_to_0(self):
        self.gives(1, 3, [bits(0.25)], [LEAST], 1, [[LEAST]])
        self.gives(1, 3, [bits(-0.25)], [LEAST], 1, [[LEAST]])
        self.gives(1, 3, [bits(0.75)], [LEAST], 0, [[LEAST], [ONE], [ONE]])

    def test_from_0_on_and_in_the_order_of_j(self):
        great = 2.0**53
        # 2^53 + 1 is 2^53, and 1 + 1 + 2^53 is more.
        for row, told in (([great, 1.0, 1.0], great), ([1.0, 1.0, great], great + 2.0)):
            a = by_rows(row, [2.0 * great, 0.0, 0.0], [0.0, 0.0, 0.0])
            self.gives(3, 2, a, [ONE] * 3, 0, [[ONE] * 3, all_bits([told / (2.0 * great), 1.0, 0.0])])
        # A product of -0 and +0 come to +0, not -0; what is rounded to -0 stays so.
        self.gives(2, 2, by_rows([-0.0, -0.0], [1.0, 1.0]), [ONE] * 2, 0, [[ONE] * 2, [ZERO, ONE]])
        self.gives(
            2, 2, by_rows([0.0, -(2.0**-1074)], [1.0, 0.0]), all_bits([1.0, 0.25]), 0,
            [all_bits([1.0, 0.25]), [MINUS_ZERO, ONE]],
        )

    def test_each_step_is_f(self):
        # x x is 1 + 2^-29 + 2^-60, and only with F the 2^-60 is left behind it.
        x = 1.0 + 2.0**-30
        a = by_rows([-1.0, x], [1.0, 0.0])
        start = all_bits([1.0 + 2.0**-29, x])
        row = [bits(2.0**-60 / (1.0 + 2.0**-29)), ONE]
        self.gives(2, 2, a, start, 0, [start, row])

    def test_all_of_z_is_made_of_the_old_y(self):
        # The row 1 reads y[0] as it was, not as it has just become.
        self.gives(2, 2, by_rows([3.0, 0.0], [1.0, 0.0]), all_bits([2.0, 1.0]), 0, [
            all_bits([2.0, 1.0]), all_bits([1.0, 2.0 / 6.0]),
        ])

    def test_g_is_a_size(self):
        for middle, told in (
            ([1.0, -4.0], [0.25, -1.0]), ([-4.0, 1.0], [-1.0, 0.25]), ([-2.0, -4.0], [-0.5, -1.0]),
            ([4.0, -4.0], [1.0, -1.0]), ([3.0, 3.0], [1.0, 1.0]),
        ):
            a = by_rows([middle[0], 0.0], [0.0, middle[1]])
            self.gives(2, 2, a, [ONE] * 2, 0, [[ONE] * 2, all_bits(told)])

    def test_divided_by_g(self):
        # One division each: not times 1 / g.
        a = by_rows([5.0, 0.0], [0.0, 49.0])
        self.gives(2, 2, a, [ONE] * 2, 0, [[ONE] * 2, all_bits([5.0 / 49.0, 1.0])])
        self.assertNotEqual(49.0 * (1.0 / 49.0), 1.0)
        # And rounded to 0 it keeps its sign.
        for small, told in ((LEAST | SIGN, MINUS_ZERO), (LEAST, ZERO), (LEAST_NORMAL | SIGN, MINUS_ZERO)):
            self.gives(2, 2, [small, ZERO, ZERO, GREATEST], [ONE] * 2, 0, [[ONE] * 2, [told, ONE]])

    def test_refused_on_the_way(self):
        for many in (1, 2, 12):
            self.assertEqual(iterate(2, many, [GREATEST] * 4, [ONE] * 2), [-3])
            self.assertEqual(iterate(2, many, by_rows([1.0, 0.0], [GREAT, GREAT]), [ONE] * 2), [-3])
        # y is 1, 1 the third time, and not before: the sum of row 0 is beyond the greatest then.
        a = by_rows([GREAT, GREAT], [GREAT, 0.0])
        rows = [all_bits([0.0, 1.0]), all_bits([1.0, 0.0])]
        for many in (0, 1, 2):
            self.gives(2, many, a, rows[0], 0, rows[:many])
        for many in (3, 4, 12):
            self.assertEqual(iterate(2, many, a, rows[0]), [-3])

    def test_as_times(self):
        a = near_doubles(9, 16, 4)
        x = near_doubles(10, 4, 4)
        told = iterate(4, 3, a, x)
        rows = [told[3:7], told[7:11], told[11:]]
        for row, following in zip(rows, rows[1:]):
            z = [value_of(s) for s in times(4, 4, 1, a, row)[2:]]
            self.assertEqual(following, [bits(s / max(map(abs, z))) for s in z])

    def test_refusals_ahead_of_the_steps(self):
        for many in (0, 1, 3):
            def call(n, a, x):
                return iterate(n, many, a, x)
            self.refuses_sizes(call, 1, counts)
            for n in (1, 2, 5):
                self.refuses_counts(call, (n,), counts)
            for n in (1, 2, 3):
                self.refuses_not_finite(call, (n,), counts, GREATEST)
        for bad in NOT_FINITE:
            self.assertEqual(iterate(1, 0, [ONE], [bad]), [-2])
            self.assertEqual(iterate(1, 0, [bad], [ONE]), [-2])
            self.assertEqual(iterate(1, 1, [ZERO], [bad]), [-2])

    def test_nothing_is_kept(self):
        for a in (all_bits([1.5, -2.5, 3.5, 0.1]), [GREATEST] * 4, [INFINITE] * 4, [ONE] * 3, [ZERO] * 4):
            for x in (all_bits([1.0, -0.5]), [ZERO] * 2, [GREATEST] * 2, [ONE]):
                for many in (0, 1, 4, 65):
                    self.keeps_nothing(lambda numbers, start: iterate(2, many, numbers, start), [a, x])
