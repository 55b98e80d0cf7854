"""norms: the four numbers in their order, each sum along its column or row, the last row by row."""

import itertools

from doubletables.tables import norms
from tests.given import (
    GREATEST, INFINITE, LEAST, MINUS_ZERO, ONE, SIGN, ZERO, all_bits, bits, near_doubles, short_doubles, small_doubles,
    wide_doubles,
)
from tests.other import answer, norms_words
from tests.refusing import CallCase

SIZES = list(itertools.product(range(1, 6), repeat=2))


def counts(m, n):
    return [m * n]


class Norms(CallCase):
    def gives(self, m, n, a, expected):
        self.assertEqual(norms(m, n, a), [0, 4] + expected)

    def test_by_hand(self):
        a = all_bits([1.0, -2.0, 3.0, -4.0, 5.0, -6.0])
        self.gives(2, 3, a, all_bits([6.0, 9.0, 15.0, 91.0**0.5]))
        self.gives(3, 2, a, all_bits([6.0, 12.0, 11.0, 91.0**0.5]))
        self.gives(1, 6, a, all_bits([6.0, 6.0, 21.0, 91.0**0.5]))
        self.gives(6, 1, a, all_bits([6.0, 21.0, 6.0, 91.0**0.5]))
        self.gives(1, 1, all_bits([-3.0]), all_bits([3.0, 3.0, 3.0, 3.0]))

    def test_all_sizes(self):
        outcomes = set()
        for m, n in SIZES + [(16, 16), (16, 3)]:
            for seed in range(3):
                for a in (
                    near_doubles(seed + m, m * n, 20), short_doubles(seed + n, m * n), wide_doubles(seed, m * n),
                    small_doubles(seed, m * n), near_doubles(seed, m * n, 2),
                ):
                    expected = answer(norms_words, m, n, a)
                    self.assertEqual(norms(m, n, a), expected, (m, n, a))
                    outcomes.add(expected[0])
        self.assertEqual(outcomes, {0, -3})

    def test_signs(self):
        for sign in (0, SIGN):
            for x in (ZERO, ONE, bits(2.5)):
                self.gives(1, 1, [x | sign], [x] * 4)
        self.gives(2, 2, [MINUS_ZERO] * 4, [ZERO] * 4)
        self.gives(1, 2, [bits(-3.0), bits(2.0)], all_bits([3.0, 3.0, 5.0, 13.0**0.5]))
        self.gives(2, 1, [LEAST | SIGN, MINUS_ZERO], [LEAST, LEAST, LEAST, ZERO])

    def test_sums_differ_by_the_order(self):
        falling, rising = all_bits([2.0**53, -1.0, 1.0]), all_bits([1.0, 1.0, -(2.0**53)])
        self.assertEqual(norms(1, 3, falling)[2:5], all_bits([2.0**53, 2.0**53, 2.0**53]))
        self.assertEqual(norms(1, 3, rising)[2:5], all_bits([2.0**53, 2.0**53, 2.0**53 + 2]))
        self.assertEqual(norms(3, 1, falling)[2:5], all_bits([2.0**53, 2.0**53, 2.0**53]))
        self.assertEqual(norms(3, 1, rising)[2:5], all_bits([2.0**53, 2.0**53 + 2, 2.0**53]))

    def test_the_last_goes_row_by_row(self):
        # Five squares of 1.25 count together, but each one alone is lost beside 2^54.
        small, great = [bits(1.25)] * 5, [bits(2.0**27)] + [ZERO] * 4
        self.assertEqual(norms(2, 5, small + great)[5], bits(2.0**27) + 1)
        self.assertEqual(norms(2, 5, great + small)[5], bits(2.0**27))

    def test_a_step_that_is_not_finite(self):
        half, tenth = bits(2.0**1023), bits(2.0**1020)
        self.assertEqual(norms(1, 2, [half, half]), [-3])
        self.assertEqual(norms(2, 1, [half, half | SIGN]), [-3])
        # Here a square alone is beyond the greatest.
        self.assertEqual(norms(1, 1, [tenth]), [-3])
        self.assertEqual(norms(1, 1, [bits(2.0**512)]), [-3])
        self.gives(1, 1, [bits(2.0**511)], [bits(2.0**511)] * 4)
        self.assertEqual(norms(2, 2, [GREATEST] * 4), [-3])

    def test_refusals_ahead_of_the_steps(self):
        self.refuses_sizes(norms, 2, counts)
        for m, n in SIZES:
            self.refuses_counts(norms, (m, n), counts)
        self.refuses_not_finite(norms, (2, 3), counts, GREATEST)

    def test_nothing_is_kept(self):
        for a in (all_bits([1.5, -2.5, 3.5, 0.1]), [GREATEST] * 4, [INFINITE] * 4, [ONE] * 3):
            self.keeps_nothing(lambda numbers: norms(2, 2, numbers), [a])
