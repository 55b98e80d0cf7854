"""own: o from its end down, a times t on this side, the trace from +0 on, and the sign behind the division."""

from doubletables.tables import own, poly, times, trace
from tests.given import (
    GREATEST, INFINITE, LEAST, MINUS_ZERO, ONE, SIGN, ZERO, all_bits, bits, minus_sign, near_doubles, small_doubles,
    value_of,
)
from tests.other import answer, own_words, unit
from tests.refusing import CallCase
from tests.squares import GREAT, by_rows, squares

# Of rank 1 but for what was rounded, so that all of the last u is what the steps before have rounded off: there
# u's middle and o[0] can be told, but not the last t, one of whose sums lies beyond the greatest.
OVER_AT_THE_LAST = tuple(
    [bits(float.fromhex(x)) for x in numbers.split()]
    for numbers in (
        "0x1.8e76db0a8bec5p+358 -0x1.1f56d54e64b7bp+358 -0x1.b58bdbfe1ed2ap+357 "
        "-0x1.6a1ef7550eb6cp+358 0x1.0521a4f7f91d1p+358 0x1.8da36dc2aceeep+357 "
        "-0x1.6ee951dcb3e73p+358 0x1.0895fd02f28ffp+358 0x1.92e610b177398p+357",
        "0x1.4452271a4d788p+358 -0x1.c245783594cd7p+358 0x1.7104a4167853ap+358 "
        "0x1.64f7c62e2e46bp+358 -0x1.ef98c8cb03730p+358 0x1.962a178e40183p+358 "
        "0x1.44af8a833b844p+358 -0x1.c2c72017f6594p+358 0x1.716ee65dbce8bp+358",
    )
)


def counts(n):
    return [n * n]


def with_middle(u, x):
    """u with x added in its middle, 3 by 3."""
    return [bits(value_of(y) + value_of(x)) if place % 4 == 0 else y for place, y in enumerate(u)]


class Own(CallCase):
    def gives(self, n, a, o):
        self.assertEqual(own(n, a), [0, n + 1] + o, a)

    def as_words(self, n, a):
        expected = answer(own_words, n, a)
        self.assertEqual(own(n, a), expected, (n, a))
        return expected[0]

    def test_by_hand(self):
        self.gives(1, all_bits([3.0]), all_bits([-3.0, 1.0]))
        self.gives(1, all_bits([-3.0]), all_bits([3.0, 1.0]))
        self.gives(2, by_rows([1.0, 2.0], [3.0, 4.0]), all_bits([-2.0, -5.0, 1.0]))
        self.gives(2, by_rows([2.0, 0.0], [0.0, 3.0]), all_bits([6.0, -5.0, 1.0]))
        self.gives(
            3, by_rows([1.0, 0.0, 0.0], [0.0, 2.0, 0.0], [0.0, 0.0, 4.0]), all_bits([-8.0, 14.0, -7.0, 1.0])
        )
        self.gives(
            4, by_rows([0.0, 1.0, 0.0, 0.0], [0.0, 0.0, 1.0, 0.0], [0.0, 0.0, 0.0, 1.0], [5.0, -4.0, 3.0, 2.0]),
            all_bits([-5.0, 4.0, -3.0, -2.0, 1.0]),
        )

    def test_all_sizes(self):
        outcomes = set()
        for n in range(1, 6):
            for seed in range(4):
                for a in squares(n, n + seed):
                    outcomes.add(self.as_words(n, a))
        self.assertEqual(outcomes, {0, -3})

    def test_greater_sizes(self):
        for n in (6, 9):
            self.as_words(n, near_doubles(n, n * n, 2))
            self.as_words(n, small_doubles(n, n * n))
        self.as_words(16, near_doubles(16, 256, 2))

    def test_a_table_in_its_own_row(self):
        # o[0] + o[1] a + o[2] a a + ... comes to a table of 0, but for what is rounded.
        for n in range(1, 6):
            a = near_doubles(n, n * n, 1)
            left = poly(n, a, own(n, a)[2:])[2:]
            self.assertLess(max(abs(value_of(x)) for x in left), 1e-8)

    def test_every_step(self):
        def by_other_calls(a, is_turned):
            o = [ONE] * 4
            t = unit(3)
            for k in (1, 2, 3):
                u = times(3, 3, 3, t, a)[2:] if is_turned else times(3, 3, 3, a, t)[2:]
                o[3 - k] = bits(-(value_of(trace(3, u)[1]) / k))
                t = with_middle(u, o[3 - k])
            return o

        sides = []
        for seed in range(12):
            a = near_doubles(seed, 9, 2)
            self.gives(3, a, by_other_calls(a, False))
            sides.append(by_other_calls(a, True) == by_other_calls(a, False))
        # t times a would mostly come to another row.
        self.assertIn(False, sides)

    def test_zeros(self):
        for x in (ZERO, MINUS_ZERO):
            for n in range(1, 6):
                self.gives(n, [x] * (n * n), [MINUS_ZERO] * n + [ONE])
        self.gives(2, by_rows([1.0, 5.0], [7.0, -1.0]), all_bits([-36.0, -0.0, 1.0]))
        self.gives(2, by_rows([0.0, 1.0], [0.0, 2.0]), all_bits([-0.0, -2.0, 1.0]))
        # Divided by 2 it's rounded to 0, and the sign is changed behind that.
        self.gives(2, [LEAST, ZERO, ZERO, ZERO], [MINUS_ZERO, LEAST | SIGN, ONE])
        # x x is so small that u's middle is -0 twice: the trace begins with +0, so it's +0, and o[0] is -0.
        x = 2.0**-600
        self.gives(2, by_rows([0.0, -x], [x, -0.0]), all_bits([-0.0, -0.0, 1.0]))

    def test_rounded_to_a_zero_below(self):
        # At k = 2 u's middle is -2^-1074 and -0: half of their sum is rounded to -0, and o[0] is +0 then.
        x = 2.0**-537
        self.gives(2, by_rows([-x, -x], [x, x / 2.0]), all_bits([0.0, x / 2.0, 1.0]))

    def test_refused_on_the_way(self):
        half = GREAT / 2.0
        # In times, in the trace, and in the sum in t's middle.
        self.assertEqual(own(2, by_rows([0.0, GREAT], [GREAT, 0.0])), [-3])
        self.assertEqual(own(2, by_rows([GREAT, 0.0], [0.0, GREAT])), [-3])
        self.assertEqual(own(2, by_rows([-GREAT, 0.0], [0.0, -half])), [-3])
        self.gives(1, [GREATEST], [minus_sign(GREATEST), ONE])
        self.gives(1, [GREATEST | SIGN], [GREATEST, ONE])
        # G, 0, G is the trace of this; o[2] is -G, and -G - G can't be told.
        self.assertEqual(own(3, by_rows([GREAT, 0.0, 0.0], [0.0, -GREAT, 0.0], [0.0, 0.0, GREAT])), [-3])

    def test_the_last_t_counts(self):
        for a in OVER_AT_THE_LAST:
            self.assertEqual(own(3, a), [-3])
            self.assertEqual(answer(own_words, 3, a), [-3])
            # All of a by half: what is rounded is the same, and nothing is beyond the greatest.
            self.assertEqual(own(3, [bits(value_of(x) / 2.0) for x in a])[0], 0)

    def test_refusals_ahead_of_the_steps(self):
        self.refuses_sizes(own, 1, counts)
        for n in (1, 2, 3, 5):
            self.refuses_counts(own, (n,), counts)
        for n in (1, 2, 3):
            self.refuses_not_finite(own, (n,), counts, GREATEST)

    def test_nothing_is_kept(self):
        for a in (all_bits([1.5, -2.5, 3.5, 0.1]), [GREATEST] * 4, [INFINITE] * 4, [ONE] * 3):
            self.keeps_nothing(lambda numbers: own(2, numbers), [a])
