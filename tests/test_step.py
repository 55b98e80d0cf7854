"""Promises 1 and 6: each step's result is the nearest double, and only finite ones are told."""

import unittest

from doubletables.tables import step
from tests.given import (
    EDGES, GREATEST, INFINITE, LEAST, LEAST_NORMAL, MINUS_ZERO, NOT_FINITE, ONE, SIGN, ZERO, bits, exact, minus_sign,
    near_doubles, other_step, short_doubles, wide_doubles,
)

ADD, SUBTRACT, MULTIPLY, DIVIDE, ROOT, FUSE = range(6)
TWO = bits(2.0)
HALF = bits(0.5)
THREE = bits(3.0)


class StepCase(unittest.TestCase):
    def gives(self, which, x, y, z, result):
        self.assertEqual(step(which, x, y, z), [0, result], (which, hex(x), hex(y), hex(z)))

    def refuses(self, which, x, y, z, number):
        self.assertEqual(step(which, x, y, z), [number], (which, hex(x), hex(y), hex(z)))

    def as_the_other_way(self, which, x, y, z):
        result = other_step(which, x, y, z)
        if result is None:
            self.refuses(which, x, y, z, -3)
        else:
            self.gives(which, x, y, z, result)


class OrdinaryNumbers(StepCase):
    def test_each_step(self):
        self.gives(ADD, bits(0.1), bits(0.2), ZERO, bits(0.30000000000000004))
        self.gives(SUBTRACT, bits(0.3), bits(0.1), ZERO, bits(0.19999999999999998))
        self.gives(MULTIPLY, bits(0.1), bits(3.0), ZERO, bits(0.30000000000000004))
        self.gives(DIVIDE, bits(1.0), bits(3.0), ZERO, 0x3FD5555555555555)
        self.gives(ROOT, bits(2.0), ZERO, ZERO, 0x3FF6A09E667F3BCD)
        self.gives(ROOT, bits(144.0), ZERO, ZERO, bits(12.0))
        self.gives(FUSE, bits(2.0), bits(3.0), bits(4.0), bits(10.0))
        self.gives(FUSE, bits(-2.0), bits(3.0), bits(4.0), bits(-2.0))

    def test_the_order_of_x_and_y(self):
        self.gives(SUBTRACT, bits(1.0), bits(3.0), ZERO, bits(-2.0))
        self.gives(DIVIDE, bits(1.0), bits(4.0), ZERO, bits(0.25))

    def test_what_a_step_does_not_use_does_not_count(self):
        for other in (ZERO, MINUS_ZERO, GREATEST, bits(-7.5)):
            self.gives(ADD, ONE, TWO, other, THREE)
            self.gives(SUBTRACT, THREE, TWO, other, ONE)
            self.gives(MULTIPLY, THREE, TWO, other, bits(6.0))
            self.gives(DIVIDE, THREE, TWO, other, bits(1.5))
            self.gives(ROOT, bits(9.0), other, bits(-1.0), THREE)
            self.gives(ROOT, bits(9.0), bits(-1.0), other, THREE)

    def test_edges_with_one_another(self):
        for x in EDGES:
            self.as_the_other_way(ROOT, x, ZERO, ZERO)
            for y in EDGES:
                for which in (ADD, SUBTRACT, MULTIPLY, DIVIDE):
                    self.as_the_other_way(which, x, y, ZERO)

    def test_edges_in_f(self):
        for x in EDGES[::3]:
            for y in EDGES[1::3]:
                for z in EDGES:
                    self.as_the_other_way(FUSE, x, y, z)

    def test_many_numbers(self):
        rows = [
            near_doubles(1, 900, 3), near_doubles(2, 900, 60), wide_doubles(3, 1800), short_doubles(4, 2700),
        ]
        for row in rows:
            for k in range(0, len(row) - 2, 3):
                for which in range(6):
                    self.as_the_other_way(which, row[k], row[k + 1], row[k + 2])

    def test_root_lies_nearest(self):
        for x in wide_doubles(5, 300) + [LEAST, LEAST + 1, LEAST_NORMAL - 1, GREATEST]:
            size = x & (SIGN - 1)
            if size == 0:
                continue
            r = step(ROOT, size, ZERO, ZERO)[1]
            below = (exact(r - 1) + exact(r)) / 2
            above = (exact(r) + exact(r + 1)) / 2
            self.assertTrue(below * below < exact(size) < above * above, hex(size))


class HalfWay(StepCase):
    def test_sums(self):
        half_a_bit = bits(2.0**-53)
        self.gives(ADD, ONE, half_a_bit, ZERO, ONE)
        self.gives(ADD, ONE + 1, half_a_bit, ZERO, ONE + 2)
        self.gives(ADD, minus_sign(ONE), minus_sign(half_a_bit), ZERO, minus_sign(ONE))
        self.gives(ADD, minus_sign(ONE + 1), minus_sign(half_a_bit), ZERO, minus_sign(ONE + 2))
        self.gives(ADD, ONE, half_a_bit + 1, ZERO, ONE + 1)
        self.gives(ADD, ONE + 1, half_a_bit - 1, ZERO, ONE + 1)

    def test_differences(self):
        quarter_bit = bits(2.0**-54)
        self.gives(SUBTRACT, ONE, quarter_bit, ZERO, ONE)
        self.gives(SUBTRACT, ONE, quarter_bit + 1, ZERO, ONE - 1)
        self.gives(SUBTRACT, ONE + 1, bits(2.0**-53), ZERO, ONE)
        self.gives(SUBTRACT, ONE + 2, bits(2.0**-53), ZERO, ONE + 2)

    def test_f(self):
        self.gives(FUSE, bits(2.0**30), bits(2.0**23), ONE, bits(2.0**53))
        self.gives(FUSE, bits(2.0**30), bits(2.0**23), THREE, bits(2.0**53 + 4))
        self.gives(FUSE, bits(-(2.0**30)), bits(2.0**23), minus_sign(THREE), bits(-(2.0**53) - 4))

    def test_among_the_smallest(self):
        self.gives(MULTIPLY, LEAST, HALF, ZERO, ZERO)
        self.gives(MULTIPLY, 3, HALF, ZERO, 2)
        self.gives(MULTIPLY, 5, HALF, ZERO, 2)
        self.gives(MULTIPLY, 7, HALF, ZERO, 4)
        self.gives(DIVIDE, 5, TWO, ZERO, 2)
        self.gives(DIVIDE, 7, TWO, ZERO, 4)

    def test_the_least_double_decides_where_all_else_lies_half_way(self):
        # The product is 2^53 + 1.
        x, y = THREE, bits(3002399751580331.0)
        self.gives(FUSE, x, y, ZERO, bits(2.0**53))
        self.gives(FUSE, x, y, LEAST, bits(2.0**53 + 2))
        self.gives(FUSE, x, y, LEAST | SIGN, bits(2.0**53))
        self.gives(MULTIPLY, x, y, ZERO, bits(2.0**53))
        # And here 2^53 + 3.
        x, y = bits(5.0), bits(1801439850948199.0)
        self.gives(FUSE, x, y, ZERO, bits(2.0**53 + 4))
        self.gives(FUSE, x, y, LEAST, bits(2.0**53 + 4))
        self.gives(FUSE, x, y, LEAST | SIGN, bits(2.0**53 + 2))
        self.gives(MULTIPLY, x, y, ZERO, bits(2.0**53 + 4))


class Smallest(StepCase):
    def test_below_the_least_normal(self):
        self.gives(DIVIDE, LEAST_NORMAL, TWO, ZERO, LEAST_NORMAL // 2)
        self.gives(SUBTRACT, LEAST_NORMAL, LEAST, ZERO, LEAST_NORMAL - 1)
        self.gives(ADD, LEAST_NORMAL - 1, LEAST, ZERO, LEAST_NORMAL)
        self.gives(ADD, LEAST, LEAST, ZERO, 2)
        self.gives(MULTIPLY, bits(2.0**-600), bits(-(2.0**-470)), ZERO, minus_sign(16))
        self.gives(ROOT, LEAST, ZERO, ZERO, bits(2.0**-537))
        self.gives(ROOT, 2, ZERO, ZERO, bits(2.0**0.5 * 2.0**-537))

    def test_rounded_up_to_the_least_normal(self):
        self.gives(MULTIPLY, LEAST_NORMAL, ONE - 1, ZERO, LEAST_NORMAL)
        self.gives(MULTIPLY, 2 * LEAST_NORMAL - 1, HALF, ZERO, LEAST_NORMAL)
        self.gives(DIVIDE, 2 * LEAST_NORMAL - 1, TWO, ZERO, LEAST_NORMAL)

    def test_rounded_to_zero_keeps_the_sign(self):
        for x, y, result in ((LEAST, LEAST, ZERO), (LEAST | SIGN, LEAST, MINUS_ZERO), (LEAST, HALF, ZERO),
                             (LEAST, HALF | SIGN, MINUS_ZERO), (LEAST | SIGN, HALF | SIGN, ZERO)):
            self.gives(MULTIPLY, x, y, ZERO, result)
        self.gives(DIVIDE, LEAST, GREATEST, ZERO, ZERO)
        self.gives(DIVIDE, LEAST, GREATEST | SIGN, ZERO, MINUS_ZERO)
        self.gives(DIVIDE, LEAST | SIGN, TWO, ZERO, MINUS_ZERO)
        # The exact sum isn't 0, so its sign is kept, whatever the sign of z.
        self.gives(FUSE, LEAST | SIGN, HALF, ZERO, MINUS_ZERO)
        self.gives(FUSE, LEAST, HALF, MINUS_ZERO, ZERO)
        self.gives(FUSE, LEAST | SIGN, LEAST, ZERO, MINUS_ZERO)

    def test_rounded_up_to_the_least(self):
        self.gives(MULTIPLY, LEAST, HALF + 1, ZERO, LEAST)
        self.gives(MULTIPLY, LEAST | SIGN, HALF + 1, ZERO, LEAST | SIGN)
        self.gives(MULTIPLY, LEAST, HALF - 1, ZERO, ZERO)
        self.gives(DIVIDE, LEAST, TWO - 1, ZERO, LEAST)
        self.gives(DIVIDE, LEAST, TWO + 1, ZERO, ZERO)
        self.gives(DIVIDE, LEAST | SIGN, TWO - 1, ZERO, LEAST | SIGN)
        self.gives(FUSE, LEAST, HALF + 1, ZERO, LEAST)
        self.gives(FUSE, LEAST | SIGN, HALF + 1, ZERO, LEAST | SIGN)


class Greatest(StepCase):
    def test_rounded_up_to_the_next_power_of_two(self):
        self.gives(ADD, TWO - 1, bits(2.0**-53), ZERO, TWO)
        self.gives(FUSE, TWO - 1, ONE, bits(2.0**-53), TWO)
        self.gives(MULTIPLY, ONE + 1, TWO - 1, ZERO, TWO)
        self.gives(SUBTRACT, minus_sign(TWO - 1), bits(2.0**-53), ZERO, minus_sign(TWO))
        self.gives(ADD, TWO - 1, bits(2.0**-53) - 1, ZERO, TWO - 1)

    def test_the_greatest_itself(self):
        self.gives(ADD, GREATEST, ZERO, ZERO, GREATEST)
        self.gives(SUBTRACT, GREATEST - 1, bits(-(2.0**971)), ZERO, GREATEST)
        self.gives(MULTIPLY, GREATEST, minus_sign(ONE), ZERO, GREATEST | SIGN)
        self.gives(DIVIDE, GREATEST, ONE, ZERO, GREATEST)
        self.gives(SUBTRACT, GREATEST, GREATEST, ZERO, ZERO)

    def test_just_below_and_just_beyond(self):
        half_a_bit = bits(2.0**970)
        self.gives(ADD, GREATEST, half_a_bit - 1, ZERO, GREATEST)
        self.refuses(ADD, GREATEST, half_a_bit, ZERO, -3)
        self.gives(SUBTRACT, GREATEST | SIGN, half_a_bit - 1, ZERO, GREATEST | SIGN)
        self.refuses(SUBTRACT, GREATEST | SIGN, half_a_bit, ZERO, -3)
        self.gives(FUSE, GREATEST, ONE, half_a_bit - 1, GREATEST)
        self.refuses(FUSE, GREATEST, ONE, half_a_bit, -3)
        self.refuses(FUSE, GREATEST | SIGN, ONE, half_a_bit | SIGN, -3)

    def test_the_least_double_decides_at_the_very_border(self):
        # The product is 2^1024 - 2^970, half-way between the greatest double and 2^1024.
        x, y = bits((2.0**27 - 1) * 2.0**970), bits(2.0**27 + 1)
        self.refuses(MULTIPLY, x, y, ZERO, -3)
        self.refuses(FUSE, x, y, ZERO, -3)
        self.refuses(FUSE, x, y, LEAST, -3)
        self.gives(FUSE, x, y, LEAST | SIGN, GREATEST)
        self.refuses(FUSE, x | SIGN, y, LEAST | SIGN, -3)
        self.gives(FUSE, x | SIGN, y, LEAST, GREATEST | SIGN)

    def test_beyond(self):
        self.refuses(ADD, GREATEST, GREATEST, ZERO, -3)
        self.refuses(SUBTRACT, GREATEST, GREATEST | SIGN, ZERO, -3)
        self.refuses(MULTIPLY, GREATEST, ONE + 1, ZERO, -3)
        self.refuses(MULTIPLY, GREATEST - 1, ONE + 1, ZERO, -3)
        self.gives(MULTIPLY, GREATEST - 2, ONE + 1, ZERO, GREATEST)
        self.refuses(DIVIDE, GREATEST, ONE - 1, ZERO, -3)
        self.refuses(DIVIDE, ONE, LEAST, ZERO, -3)
        self.refuses(FUSE, GREATEST, GREATEST, GREATEST | SIGN, -3)
        self.gives(ROOT, GREATEST, ZERO, ZERO, 0x5FEFFFFFFFFFFFFF)


class NoDouble(StepCase):
    def test_divided_by_zero(self):
        for x in (ZERO, MINUS_ZERO, ONE, LEAST, GREATEST | SIGN):
            for y in (ZERO, MINUS_ZERO):
                self.refuses(DIVIDE, x, y, ONE, -3)

    def test_root_of_what_is_below_zero(self):
        for x in (LEAST, ONE, GREATEST, LEAST_NORMAL):
            self.refuses(ROOT, x | SIGN, ZERO, ZERO, -3)


class ExactlyZero(StepCase):
    def test_roots(self):
        self.gives(ROOT, MINUS_ZERO, ONE, ONE, MINUS_ZERO)
        self.gives(ROOT, ZERO, ONE, ONE, ZERO)

    def test_sums_and_differences(self):
        self.gives(ADD, ZERO, ZERO, ONE, ZERO)
        self.gives(ADD, ZERO, MINUS_ZERO, ONE, ZERO)
        self.gives(ADD, MINUS_ZERO, ZERO, ONE, ZERO)
        self.gives(ADD, MINUS_ZERO, MINUS_ZERO, ONE, MINUS_ZERO)
        self.gives(SUBTRACT, ZERO, ZERO, ONE, ZERO)
        self.gives(SUBTRACT, ZERO, MINUS_ZERO, ONE, ZERO)
        self.gives(SUBTRACT, MINUS_ZERO, ZERO, ONE, MINUS_ZERO)
        self.gives(SUBTRACT, MINUS_ZERO, MINUS_ZERO, ONE, ZERO)
        for x in (ONE, LEAST, GREATEST, bits(0.1)):
            for y in (x, x | SIGN):
                self.gives(ADD, y, minus_sign(y), ONE, ZERO)
                self.gives(SUBTRACT, y, y, ONE, ZERO)

    def test_products_and_quotients(self):
        for x in (ZERO, MINUS_ZERO):
            for y in (ONE, LEAST, GREATEST, ONE | SIGN, ZERO, MINUS_ZERO):
                result = (x ^ y) & SIGN
                self.gives(MULTIPLY, x, y, ONE, result)
                self.gives(MULTIPLY, y, x, ONE, result)
                if y & (SIGN - 1) != 0:
                    self.gives(DIVIDE, x, y, ONE, result)

    def test_f(self):
        for x, y in ((ZERO, ONE), (MINUS_ZERO, ONE | SIGN), (ZERO, ZERO), (MINUS_ZERO, MINUS_ZERO)):
            self.gives(FUSE, x, y, ZERO, ZERO)
            self.gives(FUSE, x, y, MINUS_ZERO, ZERO)
        for x, y in ((MINUS_ZERO, ONE), (ZERO, ONE | SIGN), (ONE | SIGN, ZERO), (ZERO, MINUS_ZERO)):
            self.gives(FUSE, x, y, ZERO, ZERO)
            self.gives(FUSE, x, y, MINUS_ZERO, MINUS_ZERO)
        self.gives(FUSE, TWO, THREE, bits(-6.0), ZERO)
        self.gives(FUSE, TWO, THREE | SIGN, bits(6.0), ZERO)


class OnceRounded(StepCase):
    def test_a_product_that_is_too_great_by_itself(self):
        self.refuses(MULTIPLY, GREATEST, TWO, ZERO, -3)
        self.gives(FUSE, GREATEST, TWO, GREATEST | SIGN, GREATEST)
        self.gives(FUSE, GREATEST | SIGN, TWO, GREATEST, GREATEST | SIGN)
        self.gives(FUSE, bits(2.0**1000), bits(2.0**24), minus_sign(bits(2.0**1023)), bits(2.0**1023))

    def test_a_product_that_would_lose_digits(self):
        x = bits(1.0 + 2.0**-30)
        self.gives(FUSE, x, x, bits(-1.0 - 2.0**-29), bits(2.0**-60))
        self.gives(FUSE, bits(0.1), bits(10.0), bits(-1.0), bits(2.0**-54))
        self.gives(FUSE, bits(2.0**27 + 1), bits(2.0**27 + 1), bits(-(2.0**54)), bits(2.0**28 + 1))

    def test_a_product_that_would_be_zero_by_itself(self):
        self.gives(FUSE, bits(2.0**-1000), bits(2.0**-76), LEAST, LEAST)
        self.gives(FUSE, LEAST, HALF, 1, 2)
        self.gives(FUSE, LEAST, HALF, 2, 2)
        # 2.5 units: with the product rounded to 2 units first it would be 3.
        self.gives(FUSE, 3, HALF, 1, 2)


class Refusals(StepCase):
    def test_which(self):
        for which in (6, 7, 16, 2**32, 2**64 - 1):
            self.refuses(which, ONE, ONE, ONE, -1)
            for bad in NOT_FINITE:
                self.refuses(which, bad, bad, bad, -1)

    def test_not_finite_in_each_place(self):
        for which in range(6):
            for bad in NOT_FINITE:
                self.refuses(which, bad, ONE, ONE, -2)
                self.refuses(which, ONE, bad, ONE, -2)
                self.refuses(which, ONE, ONE, bad, -2)

    def test_not_finite_comes_ahead_of_a_step_that_is_not(self):
        self.refuses(DIVIDE, ONE, ZERO, INFINITE, -2)
        self.refuses(ROOT, minus_sign(ONE), INFINITE, ONE, -2)
        self.refuses(ROOT, minus_sign(ONE), ONE, INFINITE, -2)
        self.refuses(ADD, GREATEST, GREATEST, INFINITE, -2)

    def test_twice_the_same(self):
        for which in range(7):
            self.assertEqual(step(which, GREATEST, TWO, ONE), step(which, GREATEST, TWO, ONE))


if __name__ == "__main__":
    unittest.main()
