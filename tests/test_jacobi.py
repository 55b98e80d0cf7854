"""jacobi: both ways to t, each turn's steps in their order, and a table that isn't the same both ways."""

import itertools
import math

from doubletables.tables import jacobi, step
from doubletables.turns import Turned, turn_once
from tests.given import (
    GREATEST, INFINITE, LEAST, MINUS_ZERO, NOT_FINITE, ONE, SIGN, ZERO, all_bits, bits, minus_sign, near_doubles,
    value_of,
)
from tests.other import answer, by_place, jacobi_words, turn_words, unit
from tests.refusing import CallCase
from tests.squares import GREAT, both_ways, by_rows, squares

MOST = 2**64 - 1


def counts(n):
    return [n * n]


def two_by_two(first, z, second):
    return all_bits([first, z, z, second])


def one_turn(first, z, second):
    """d and v of one sweep over the table of these, 2 by 2, as floats; none where it's refused."""
    told = jacobi(2, 1, two_by_two(first, z, second))
    return [value_of(x) for x in told[2:4] + told[5:]]


def far_t(z, e):
    return step(3, bits(z), bits(e), ZERO)[1]


def near_t(z, e):
    h = step(3, bits(e), bits(z + z), ZERO)[1]
    g = step(0, h & ~SIGN, step(4, step(5, h, h, ONE)[1], ZERO, ZERO)[1], ZERO)[1]
    t = step(3, ONE, g, ZERO)[1]
    return minus_sign(t) if value_of(h) < 0 else t


def tables_both_ways(n, seed):
    return [both_ways(a) for a in squares(n, seed)]


class Jacobi(CallCase):
    def gives(self, n, sweeps, a, d, v):
        self.assertEqual(jacobi(n, sweeps, a), [0, n] + d + [n * n] + v, (sweeps, a))

    def as_words(self, n, sweeps, a):
        expected = answer(jacobi_words, n, sweeps, a)
        self.assertEqual(jacobi(n, sweeps, a), expected, (n, sweeps, a))
        return expected[0]

    def test_by_hand(self):
        c = 1.0 / 2.0**0.5
        self.gives(2, 1, two_by_two(2.0, 1.0, 2.0), all_bits([1.0, 3.0]), by_rows([c, c], [-c, c]))
        self.gives(2, 3, two_by_two(2.0, 1.0, 2.0), all_bits([1.0, 3.0]), by_rows([c, c], [-c, c]))
        self.gives(2, 1, two_by_two(5.0, -2.0, 5.0), all_bits([7.0, 3.0]), by_rows([c, c], [-c, c]))
        # e is 3, h is 3 / 4, so t is 1 / 2.
        c = 1.0 / 1.25**0.5
        s = 0.5 * c
        self.gives(2, 1, two_by_two(1.0, 2.0, 4.0), all_bits([0.0, 5.0]), by_rows([c, s], [-s, c]))
        # e is -3, so h and t are below 0.
        self.gives(2, 1, two_by_two(4.0, 2.0, 1.0), all_bits([5.0, 0.0]), by_rows([c, -s], [s, c]))
        self.gives(2, 1, two_by_two(1.0, -2.0, 4.0), all_bits([0.0, 5.0]), by_rows([c, -s], [s, c]))

    def test_all_sizes(self):
        outcomes = set()
        for n in range(1, 6):
            for sweeps in (1, 2, 4):
                for a in tables_both_ways(n, n + sweeps):
                    outcomes.add(self.as_words(n, sweeps, a))
        self.assertEqual(outcomes, {0, -3})

    def test_many_sweeps(self):
        for n, sweeps in ((2, 12), (3, 12), (5, 8), (3, 64), (8, 1), (16, 1)):
            self.as_words(n, sweeps, both_ways(near_doubles(n + sweeps, n * n, 2)))

    def test_own_values(self):
        # a is v times d in the middle times v flipped, and v's columns are 1 long and upright on one another.
        for n in (2, 3, 5):
            a = [value_of(x) for x in both_ways(near_doubles(n, n * n, 1))]
            told = [value_of(x) for x in jacobi(n, 8, all_bits(a))]
            d, v = told[2:2 + n], told[3 + n:]
            for i, j in itertools.product(range(n), repeat=2):
                row, other = v[i * n:i * n + n], v[j * n:j * n + n]
                self.assertAlmostEqual(sum(x * y * z for x, y, z in zip(d, row, other)), a[i * n + j], 12)
                self.assertAlmostEqual(sum(x * y for x, y in zip(row, other)), float(i == j), 12)

    def test_no_sweep(self):
        for n in range(1, 6):
            for a in tables_both_ways(n, n) + [[GREATEST] * (n * n), [MINUS_ZERO] * (n * n)]:
                self.gives(n, 0, a, a[::n + 1], unit(n))

    def test_one_number(self):
        for x in (ZERO, MINUS_ZERO, ONE, GREATEST, LEAST | SIGN):
            for sweeps in (0, 1, 12, 64):
                self.gives(1, sweeps, [x], [x], [ONE])

    def test_at_most_64_sweeps(self):
        self.gives(2, 64, two_by_two(1.0, 0.0, 2.0), all_bits([1.0, 2.0]), unit(2))
        for above in (65, 66, 300, 2**32, MOST):
            for a in (unit(2), [GREATEST] * 4, [INFINITE] * 4, all_bits([1.0, 2.0, 3.0, 4.0])):
                self.assertEqual(jacobi(2, above, a), [-1])

    def test_each_turn(self):
        # Sweeps go p by p, q by q within: with 3 rows 0 1, 0 2, 1 2.
        for seed in range(6):
            a = both_ways(near_doubles(seed, 9, 3))
            x, v = by_place(a, 3, 3), by_place(unit(3), 3, 3)
            for p, q in ((0, 1), (0, 2), (1, 2)):
                turn_words(3, x, v, p, q)
            d = [x[0, 0], x[1, 1], x[2, 2]]
            self.gives(3, 1, a, d, [v[i, j] for i in range(3) for j in range(3)])


class PassedBy(CallCase):
    def test_zeros_beside_the_middle(self):
        # No step is done: neither the e of the two greatest nor a F that would change a -0.
        for zero in (0.0, -0.0):
            for first, second in ((GREAT, -GREAT), (-GREAT, GREAT), (-0.0, 0.0), (0.0, -0.0), (-0.0, -0.0)):
                a = two_by_two(first, zero, second)
                for sweeps in (1, 5):
                    self.assertEqual(jacobi(2, sweeps, a), [0, 2, a[0], a[3], 4] + unit(2))

    def test_some_are_passed_by(self):
        # Row 1 stands by itself, so only 0 and 2 are turned.
        a = by_rows([2.0, 0.0, 1.0], [-0.0, GREAT, -0.0], [1.0, 0.0, 2.0])
        c = 1.0 / 2.0**0.5
        told = all_bits([1.0, GREAT, 3.0]) + [9] + by_rows([c, 0.0, c], [0.0, 1.0, 0.0], [-c, 0.0, c])
        self.assertEqual(jacobi(3, 1, a), [0, 3] + told)

    def test_what_was_turned_is_passed_by_later(self):
        a = two_by_two(0.1, 0.3, 0.7)
        once = jacobi(2, 1, a)
        for sweeps in (2, 3, 12):
            self.assertEqual(jacobi(2, sweeps, a), once)


class BothWays(CallCase):
    def test_refused_where_it_is_not(self):
        for n in range(2, 6):
            for i, j in itertools.product(range(n), repeat=2):
                if i != j:
                    for fill, other in ((ONE, ONE + 1), (ZERO, LEAST), (GREATEST, GREATEST - 1), (ONE, ONE | SIGN)):
                        a = [fill] * (n * n)
                        a[i * n + j] = other
                        for sweeps in (0, 1, 64):
                            self.assertEqual(jacobi(n, sweeps, a), [-4], (n, i, j))

    def test_behind_the_other_refusals(self):
        a = all_bits([1.0, 2.0, 3.0, 4.0])
        self.assertEqual(jacobi(2, 1, a), [-4])
        self.assertEqual(jacobi(2, 65, a), [-1])
        self.assertEqual(jacobi(2, 1, a + [ONE]), [-1])
        self.assertEqual(jacobi(2, 1, a[:3]), [-1])
        for bad in NOT_FINITE:
            for place in range(4):
                self.assertEqual(jacobi(2, 1, a[:place] + [bad] + a[place + 1:]), [-2])

    def test_ahead_of_all_steps(self):
        # The turn of 0 and 1 can't be done, but only behind it stands what isn't the same both ways.
        a = by_rows([GREAT, 1.0, 0.0], [1.0, -GREAT, 2.0], [0.0, 3.0, 0.0])
        self.assertEqual(jacobi(3, 1, a), [-4])
        a[7] = a[5]
        self.assertEqual(jacobi(3, 1, a), [-3])

    def test_zeros_of_both_signs_are_the_same(self):
        for first, second in ((ZERO, MINUS_ZERO), (MINUS_ZERO, ZERO)):
            a = [ONE, first, second, bits(2.0)]
            self.assertEqual(jacobi(2, 3, a), [0, 2, ONE, bits(2.0), 4] + unit(2))
        for seed in range(8):
            a = both_ways(near_doubles(seed, 9, 2))
            for place, other in ((1, 3), (2, 6), (5, 7)):
                b = list(a)
                b[place], b[other] = MINUS_ZERO, ZERO
                expected = answer(jacobi_words, 3, 2, b)
                self.assertEqual(jacobi(3, 2, b), expected)
                self.assertEqual(expected[0], 0)

    def test_the_same_both_ways_at_every_step(self):
        for n in (2, 3, 5):
            for a in tables_both_ways(n, 3)[:7]:
                turned = Turned([a[i * n:i * n + n] for i in range(n)])
                for p, q in list(itertools.combinations(range(n), 2)) * 2:
                    turn_once(turned, p, q)
                    for i, j in itertools.product(range(n), repeat=2):
                        self.assertEqual(turned.x[i][j], turned.x[j][i])
                    self.assertEqual((turned.x[p][q] & ~SIGN, turned.x[q][p] & ~SIGN), (0, 0))


class WaysToT(CallCase):
    """Where s is so small that c is 1, [0, 1] of v tells t."""

    def t_told(self, z, e):
        told = jacobi(2, 1, two_by_two(0.0, z, e))
        self.assertEqual(told[0], 0)
        return told[6]

    def test_by_the_bound(self):
        differ = set()
        for z, power in itertools.product((1.0, 1.1, 1.3, 1.75, 1.9999999, 3.0), (500, 501, 503)):
            for k in range(-40, 41):
                for sign in (1.0, -1.0):
                    bound = bits(math.ldexp(z, 500))
                    z_given = math.ldexp(z, 500 - power)
                    e = math.ldexp(value_of(bound + k), 500 - power) * sign
                    is_far = k > 0
                    expected = far_t(z_given, e) if is_far else near_t(z_given, e)
                    self.assertEqual(self.t_told(z_given, e), expected, (z_given, e))
                    if far_t(z_given, e) != near_t(z_given, e):
                        differ.add((is_far, k))
        # One behind the bound, and near it on both sides, the two ways come to other numbers.
        self.assertIn((True, 1), differ)
        self.assertIn(False, {is_far for is_far, k in differ})

    def test_equal_to_the_bound(self):
        for z in (1.0, 1.75, -1.75, 2.0**-1074, 3.0 * 2.0**-1074, 2.0**523):
            e = math.ldexp(z, 500)
            for sign in (1.0, -1.0):
                self.assertEqual(self.t_told(z, e * sign), bits(2.0**-500 * sign))

    def test_a_bound_beyond_the_greatest(self):
        for z in (2.0**524, 1.1 * 2.0**600, -(1.3 * 2.0**800), 1.1 * 2.0**1022):
            for e in (GREAT, -GREAT, GREAT / 3.0, 1.0, 0.0):
                a = two_by_two(0.0, z, e)
                expected = answer(jacobi_words, 2, 1, a)
                self.assertEqual(jacobi(2, 1, a), expected)
                if abs(z) < 2.0**900 and abs(e) > 1e300:
                    self.assertEqual(expected[0], 0)
        # So great an h that h h + 1 is h h, and t tells that it came from h.
        for k in range(20):
            z, e = 1.7 * 2.0**600, value_of(GREATEST - k)
            self.assertEqual(self.t_told(z, e), near_t(z, e))

    def test_smallest_numbers(self):
        least = 2.0**-1074
        self.assertEqual(self.t_told(least, 2.0**-500), bits(2.0**-574))
        self.assertEqual(self.t_told(-least, 2.0**-500), bits(-(2.0**-574)))
        for z, e in ((least, least), (least, 5.0 * least), (3.0 * least, -least), (least, 2.0**-600)):
            a = two_by_two(0.0, z, e)
            self.assertEqual(jacobi(2, 1, a), answer(jacobi_words, 2, 1, a))

    def test_a_t_that_is_rounded_to_0(self):
        # t is +0 or -0 then; x[p, p] is F (-t, z, x[p, p]), so a -0 there stays or goes by the signs.
        for z, e, told in (
            (LEAST, 2.0**1000, MINUS_ZERO), (LEAST | SIGN, 2.0**1000, MINUS_ZERO),
            (LEAST, -(2.0**1000), ZERO), (LEAST | SIGN, -(2.0**1000), ZERO),
        ):
            a = [MINUS_ZERO, z, z, bits(e)]
            self.assertEqual(jacobi(2, 1, a), [0, 2, told, bits(e), 4] + unit(2))
            self.assertEqual(answer(jacobi_words, 2, 1, a), jacobi(2, 1, a))

    def test_h_that_is_0(self):
        # e is 0 or -0, or so small that h is rounded to 0 or -0: never below 0, so t is 1.
        least = 2.0**-1074
        c = 1.0 / 2.0**0.5
        for first, second in (
            (3.0, 3.0), (0.0, 0.0), (0.0, -0.0), (-0.0, 0.0), (0.0, least), (0.0, -least), (least, 0.0),
        ):
            for z in (1.0, -1.0):
                self.assertEqual(one_turn(first, z, second)[2:], [c, c, -c, c])
        # The greatest h below 0.
        for z, e in ((1.0, -2.0 * least), (-1.0, 2.0 * least)):
            self.assertEqual(one_turn(0.0, z, e)[2:], [c, -c, c, c])

    def test_signs_of_h(self):
        for e, z in itertools.product((1.0, -1.0, 1e-300, -1e-300, 1e10, -1e10), (1.0, -1.0, 0.3, -1e5)):
            t_sign = math.copysign(1.0, one_turn(0.0, z, e)[3])
            h = e / (z + z)
            self.assertEqual(t_sign, -1.0 if h < 0 else 1.0)


class OnTheWay(CallCase):
    def test_refused(self):
        for first, z, second in (
            # e; x[p, q] + x[p, q]; x[q, q], and x[p, p].
            (-GREAT, 1.0, GREAT), (GREAT, 1.0, -GREAT), (-GREAT, 2.0**-1074, GREAT),
            (0.0, 2.0**1023, 0.0), (0.0, -GREAT, 0.0), (GREAT, GREAT, GREAT), (0.0, GREAT, GREAT),
            (GREAT, 2.0**1022, GREAT), (GREAT, -(2.0**1022), GREAT), (-GREAT, 2.0**1022, -GREAT),
        ):
            for sweeps in (1, 2):
                self.assertEqual(jacobi(2, sweeps, two_by_two(first, z, second)), [-3], (first, z, second))
                self.assertEqual(answer(jacobi_words, 2, sweeps, two_by_two(first, z, second)), [-3])
        # Just not beyond: z + z is the greatest.
        a = two_by_two(0.0, GREAT / 2.0, 0.0)
        self.assertEqual(jacobi(2, 1, a)[:4], [0, 2, bits(-GREAT / 2.0), bits(GREAT / 2.0)])

    def test_refused_beside_the_middle(self):
        # u and w of row 2 are too great for c w + s u, or for c u - s w.
        for u, w in ((GREAT, GREAT), (GREAT, -GREAT)):
            a = by_rows([1.0, 1.0, u], [1.0, 1.0, w], [u, w, 0.0])
            self.assertEqual(jacobi(3, 1, a), [-3])
            self.assertEqual(answer(jacobi_words, 3, 1, a), [-3])

    def test_refused_at_a_later_sweep(self):
        found = set()
        for seed in range(60):
            a = both_ways([bits(value_of(x) * 2.0**1021) for x in near_doubles(seed, 9, 1)])
            firsts = tuple(jacobi(3, sweeps, a)[0] for sweeps in (0, 1, 2))
            found.add(firsts)
            self.assertEqual(firsts, tuple(answer(jacobi_words, 3, sweeps, a)[0] for sweeps in (0, 1, 2)))
        self.assertIn((0, 0, 0), found)
        self.assertIn((0, -3, -3), found)

    def test_refusals_ahead_of_the_steps(self):
        for sweeps in (0, 1, 5):
            def call(n, a):
                return jacobi(n, sweeps, a)
            self.refuses_sizes(call, 1, counts)
            for n in (1, 2, 5):
                self.refuses_counts(call, (n,), counts)
            for n in (1, 2, 3):
                self.refuses_not_finite(call, (n,), counts, GREATEST)

    def test_nothing_is_kept(self):
        for a in (
            two_by_two(1.5, -2.5, 3.5), [GREATEST] * 4, [INFINITE] * 4, [ONE] * 3, all_bits([1.0, 2.0, 3.0, 4.0]),
            [ONE, ZERO, MINUS_ZERO, ONE],
        ):
            for sweeps in (0, 1, 4, 65):
                self.keeps_nothing(lambda numbers: jacobi(2, sweeps, numbers), [a])
