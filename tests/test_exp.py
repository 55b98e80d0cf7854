"""exp: what is halved, multiplied, divided and added, in this order, and then squared."""

import itertools
import math

from doubletables.tables import exp, sum_of, times
from tests.given import (
    GREATEST, INFINITE, LEAST, MINUS_ZERO, NOT_FINITE, ONE, SIGN, ZERO, all_bits, bits, near_doubles, value_of,
)
from tests.other import answer, exp_words, unit
from tests.refusing import CallCase
from tests.squares import GREAT, by_rows, squares

MOST = 2**64 - 1
TWO = bits(2.0)
ABOVE_64 = (65, 66, 300, 2**32, MOST)


def counts(n):
    return [n * n]


class Exp(CallCase):
    def gives(self, n, terms, halvings, a, s):
        self.assertEqual(exp(n, terms, halvings, a), [0, n * n] + s, (terms, halvings, a))

    def as_words(self, n, terms, halvings, a):
        expected = answer(exp_words, n, terms, halvings, a)
        self.assertEqual(exp(n, terms, halvings, a), expected, (n, terms, halvings, a))
        return expected[0]

    def test_by_hand(self):
        self.gives(1, 1, 0, [TWO], all_bits([3.0]))
        self.gives(1, 2, 0, [TWO], all_bits([5.0]))
        self.gives(1, 3, 0, [bits(3.0)], all_bits([13.0]))
        self.gives(1, 1, 1, [TWO], all_bits([4.0]))
        self.gives(1, 1, 2, [bits(4.0)], all_bits([16.0]))
        self.gives(1, 2, 1, [bits(4.0)], all_bits([25.0]))
        self.gives(2, 2, 0, by_rows([0.0, 2.0], [2.0, 0.0]), by_rows([3.0, 2.0], [2.0, 3.0]))
        self.gives(2, 2, 1, by_rows([0.0, 4.0], [4.0, 0.0]), by_rows([13.0, 12.0], [12.0, 13.0]))
        self.gives(2, 5, 3, by_rows([0.0, 8.0], [0.0, 0.0]), by_rows([1.0, 8.0], [0.0, 1.0]))

    def test_near_e(self):
        for x in (1.0, -2.5, 3.0):
            self.assertAlmostEqual(value_of(exp(1, 12, 6, [bits(x)])[2]), math.exp(x), 12)
        quarter = exp(2, 12, 6, by_rows([0.0, -math.pi / 2.0], [math.pi / 2.0, 0.0]))[2:]
        for x, y in zip(quarter, (0.0, -1.0, 1.0, 0.0)):
            self.assertAlmostEqual(value_of(x), y, 12)

    def test_no_terms(self):
        for n in (1, 2, 3, 5):
            for halvings in (0, 1, 2, 12):
                for a in squares(n, 3):
                    self.gives(n, 0, halvings, a, unit(n))

    def test_one_term_and_no_halving(self):
        for n in (1, 2, 3, 5):
            for a in squares(n, 5)[:5]:
                self.assertEqual(exp(n, 1, 0, a), sum_of(n, n, unit(n), a))

    def test_all_sizes(self):
        outcomes = set()
        for n in range(1, 6):
            for terms, halvings in itertools.product((1, 2, 5), (0, 1, 3)):
                for a in squares(n, n + terms + halvings):
                    outcomes.add(self.as_words(n, terms, halvings, a))
        self.assertEqual(outcomes, {0, -3})

    def test_many_terms_and_halvings(self):
        for terms, halvings in itertools.product((0, 1, 7, 12), (0, 1, 8, 12)):
            self.as_words(2, terms, halvings, near_doubles(terms + halvings, 4, 1))
        self.as_words(16, 2, 1, near_doubles(6, 256, 1))

    def test_at_most_64(self):
        self.as_words(1, 64, 64, [bits(0.7)])
        self.as_words(2, 64, 0, near_doubles(2, 4, 1))
        self.as_words(2, 1, 64, near_doubles(2, 4, 1))
        for above in ABOVE_64:
            for other in (0, 1, 64, 65, MOST):
                for fill in (ZERO, GREATEST, INFINITE):
                    self.assertEqual(exp(2, above, other, [fill] * 4), [-1])
                    self.assertEqual(exp(2, other, above, [fill] * 4), [-1])

    def test_halved_in_one_step(self):
        # The term is told as it is, times 2 by each squaring of a table with 1 in the middle.
        def one_term(x, halvings):
            return exp(2, 1, halvings, [ZERO, x, ZERO, ZERO])

        for x, halvings, halved in (
            (3, 1, 2), (1, 1, 0), (5, 1, 2), (5, 2, 1), (6, 2, 2), (2, 2, 0), (3, 2, 1), (1, 12, 0), (7, 3, 1),
            # By halves of halves, each rounded, 11 would come to 2, and 13 over 8 is 2 too.
            (11, 3, 1), (13, 3, 2), (4, 3, 0), (12, 3, 2),
        ):
            for sign in (0, SIGN):
                told = (halved << halvings) | (sign if halved else 0)
                self.assertEqual(one_term(x | sign, halvings), [0, 4, ONE, told, ZERO, ONE], (x, halvings))

    def test_divided_behind_times(self):
        # 2^1024 / 2 would be no more than 2^1023, but 2^1024 comes first.
        self.assertEqual(exp(1, 2, 0, [bits(2.0**512)]), [-3])
        self.assertEqual(exp(1, 2, 0, [bits(-(2.0**512))]), [-3])
        self.gives(1, 2, 0, [bits(2.0**511)], [bits(2.0**1021)])
        # With x beside the middle alone, the last number of row 0 is what is told of t at i = 3.
        x = 0.32
        second = x * x / 2.0
        told = bits(second * x / 3.0)
        self.assertEqual(exp(4, 3, 0, all_bits([
            0.0, x, 0.0, 0.0,
            0.0, 0.0, x, 0.0,
            0.0, 0.0, 0.0, x,
            0.0, 0.0, 0.0, 0.0,
        ]))[5], told)
        self.assertNotEqual(bits(second * (x / 3.0)), told)
        self.assertNotEqual(bits(second / 3.0 * x), told)

    def test_on_which_side(self):
        def by(x, y):
            return times(3, 3, 3, x, y)[2:]

        a = near_doubles(4, 9, 3)
        second = [bits(value_of(x) / 2.0) for x in by(a, a)]
        third = [bits(value_of(x) / 3.0) for x in by(second, a)]
        s = unit(3)
        for t in (a, second, third):
            s = sum_of(3, 3, s, t)[2:]
        self.gives(3, 3, 0, a, s)
        self.assertNotEqual(by(second, a), by(a, second))

    def test_refused_on_the_way(self):
        # In t times b, though no number is told of it that isn't in s.
        self.assertEqual(exp(2, 2, 0, [GREATEST] * 4), [-3])
        self.gives(2, 1, 0, [GREATEST] * 4, [GREATEST] * 4)
        self.assertEqual(exp(1, 2, 0, [bits(1.5 * 2.0**512)]), [-3])
        # In s + t: [0, 1] of t times b is as great as x, and t has its half.
        for part, first in ((0.9, [-3]), (0.6, [0])):
            x = part * GREAT
            self.assertEqual(exp(2, 2, 0, by_rows([0.5, x], [0.0, 0.5]))[:1], first)
            self.assertEqual(exp(2, 1, 0, by_rows([0.5, x], [0.0, 0.5]))[:1], [0])
        # In s times s, the first or a later one.
        self.assertEqual(exp(1, 1, 1, [bits(2.0**600)]), [-3])
        self.gives(1, 1, 1, [bits(2.0**512)], [bits(2.0**1022)])
        self.assertEqual(exp(1, 1, 2, [bits(2.0**400)]), [-3])
        self.gives(1, 1, 1, [bits(2.0**400)], [bits(2.0**798)])

    def test_zeros(self):
        # 1 and what is added come to 2^-53 in the middle; the product with so small a number is rounded to -0.
        near_two = -2.0 + 2.0**-52
        self.gives(
            2, 1, 1, by_rows([near_two, -(2.0**-1059)], [0.0, near_two]),
            all_bits([2.0**-106, -0.0, 0.0, 2.0**-106]),
        )
        self.gives(
            2, 1, 1, by_rows([near_two, 2.0**-1059], [0.0, near_two]), all_bits([2.0**-106, 0.0, 0.0, 2.0**-106])
        )
        self.gives(1, 1, 0, [bits(-1.0)], [ZERO])
        self.gives(1, 1, 3, [bits(-8.0)], [ZERO])
        for halvings in (0, 1, 3):
            self.gives(2, 3, halvings, [MINUS_ZERO] * 4, unit(2))
            self.gives(2, 3, halvings + 1, [LEAST | SIGN] * 4, unit(2))

    def test_refusals_ahead_of_the_steps(self):
        for terms, halvings in ((0, 0), (0, 1), (2, 0), (3, 2)):
            def call(n, a):
                return exp(n, terms, halvings, a)
            self.refuses_sizes(call, 1, counts)
            for n in (1, 2, 5):
                self.refuses_counts(call, (n,), counts)
            self.refuses_not_finite(call, (2,), counts, GREATEST)
        for bad in NOT_FINITE:
            self.assertEqual(exp(1, 0, 0, [bad]), [-2])

    def test_nothing_is_kept(self):
        for a in (all_bits([0.5, -2.5, 3.5, 0.1]), [GREATEST] * 4, [INFINITE] * 4, [ONE] * 3):
            for terms, halvings in ((0, 0), (1, 0), (0, 2), (3, 2), (65, 0)):
                self.keeps_nothing(lambda numbers: exp(2, terms, halvings, numbers), [a])
