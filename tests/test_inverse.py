"""inverse: solve with the table of 1 in the middle."""

import itertools

from doubletables.tables import inverse, solve
from tests.given import (
    GREATEST, INFINITE, LEAST, LEAST_NORMAL, MINUS_ZERO, ONE, SIGN, ZERO, all_bits, bits, near_doubles,
)
from tests.other import answer, inverse_words, unit
from tests.refusing import CallCase
from tests.squares import GREAT, NOUGHT_AHEAD, NOUGHT_COLUMNS, OVER_AHEAD, by_rows, side_of, squares


def counts(n):
    return [n * n]


class Inverse(CallCase):
    def gives(self, n, a, y):
        self.assertEqual(inverse(n, a), [0, n * n] + y)

    def test_by_hand(self):
        self.gives(1, [bits(-4.0)], [bits(-0.25)])
        self.gives(1, [bits(3.0)], [bits(1.0 / 3.0)])
        self.gives(2, by_rows([2.0, 1.0], [0.0, 4.0]), by_rows([0.5, -0.125], [0.0, 0.25]))
        self.gives(2, by_rows([0.0, 4.0], [2.0, 1.0]), by_rows([-0.125, 0.5], [0.25, 0.0]))
        self.gives(3, unit(3), unit(3))

    def test_all_sizes(self):
        outcomes = set()
        for n in range(1, 6):
            for seed in range(12):
                for a in squares(n, 90 * seed + n):
                    expected = answer(inverse_words, n, a)
                    self.assertEqual(inverse(n, a), expected, (n, a))
                    self.assertEqual(inverse(n, a), solve(n, n, a, unit(n)))
                    outcomes.add(expected[0])
        self.assertEqual(outcomes, {0, -3, -4})

    def test_the_greatest_size(self):
        a = near_doubles(5, 256, 2)
        self.assertEqual(inverse(16, a), answer(inverse_words, 16, a))

    def test_rows_exchanged_each_way(self):
        for p in itertools.permutations(range(4)):
            a = [ONE if p[i] == j else ZERO for i in range(4) for j in range(4)]
            self.gives(4, a, [ONE if p[j] == i else ZERO for i in range(4) for j in range(4)])

    def test_zeros_with_their_signs(self):
        self.gives(2, by_rows([-1.0, 0.0], [0.0, 1.0]), [ONE | SIGN, MINUS_ZERO, ZERO, ONE])
        self.gives(2, by_rows([1.0, 0.0], [0.0, -1.0]), [ONE, ZERO, MINUS_ZERO, ONE | SIGN])
        self.gives(2, by_rows([-1.0, -0.0], [-0.0, -1.0]), [ONE | SIGN, MINUS_ZERO, MINUS_ZERO, ONE | SIGN])
        # 2^-1000 times 2^-1000 is rounded to 0 and keeps its sign.
        far = 2.0**1000
        self.gives(2, by_rows([far, 1.0], [0.0, far]), [bits(1 / far), MINUS_ZERO, ZERO, bits(1 / far)])
        self.gives(2, by_rows([far, -1.0], [0.0, far]), [bits(1 / far), ZERO, ZERO, bits(1 / far)])

    def test_refusals_as_lu_gives_them(self):
        for a in NOUGHT_COLUMNS + NOUGHT_AHEAD:
            self.assertEqual(inverse(side_of(a), a), [-4])
        self.assertEqual(inverse(3, OVER_AHEAD), [-3])

    def test_a_step_behind_lu_that_is_not_finite(self):
        self.assertEqual(inverse(1, [LEAST]), [-3])
        self.assertEqual(inverse(1, [LEAST_NORMAL]), [0, 1, bits(2.0**1022)])
        self.assertEqual(inverse(2, by_rows([1.0, GREAT], [0.0, 0.5])), [-3])
        self.assertEqual(inverse(2, by_rows([1.0, GREAT], [0.0, 1.0])), [0, 4] + by_rows([1.0, -GREAT], [0.0, 1.0]))

    def test_refusals_ahead_of_the_steps(self):
        self.refuses_sizes(inverse, 1, counts)
        for n in range(1, 6):
            self.refuses_counts(inverse, (n,), counts)
            self.refuses_not_finite(inverse, (n,), counts, ZERO)
        self.refuses_not_finite(inverse, (3,), counts, GREATEST)

    def test_nothing_is_kept(self):
        for a in (all_bits([1.5, -2.5, 3.5, 0.1]), [ZERO] * 4, [LEAST, 0, 0, ONE], [INFINITE] * 4, [ONE] * 3):
            self.keeps_nothing(lambda numbers: inverse(2, numbers), [a])
