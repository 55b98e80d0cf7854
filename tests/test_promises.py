"""What the document promises over the whole program, held against every call."""

import contextlib
import unittest
from unittest import mock

from doubletables import doubles, equations, grids, powers, tables, turns
from tests.calls import ARGUMENTS, BY_STEPS, answer_by_words, given_to, is_list
from tests.given import INFINITE, ONE, SIGN, ZERO, is_minus, other_step
from tests.other import ADD, DIVIDE, FUSE, MULTIPLY, ROOT, SUBTRACT
from tests.refusing import Unchanging
from tests.squares import NOUGHT_AHEAD, NOUGHT_COLUMNS, OVER_AHEAD, side_of, squares

SEEDS = range(200)
MODULES = (tables, equations, grids, powers, turns)
STEPS = {"plus": ADD, "minus": SUBTRACT, "product": MULTIPLY, "quotient": DIVIDE, "root": ROOT, "fused": FUSE}


def called(name, given):
    return getattr(tables, name)(*given)


def watched(stack, step, watch):
    """Has watch called, wherever the package does that step: with what it's done on, and its result or None."""
    done = getattr(doubles, step)

    def watching(*given):
        try:
            result = done(*given)
        except doubles.StepNotFinite:
            watch(given, None)
            raise
        watch(given, result)
        return result

    for module in MODULES:
        if hasattr(module, step):
            stack.enter_context(mock.patch.object(module, step, watching))


class EveryCall(unittest.TestCase):
    def test_as_the_words(self):
        for name in ARGUMENTS:
            outcomes = set()
            for seed in SEEDS:
                given = given_to(name, seed)
                expected = answer_by_words(name, given)
                self.assertEqual(called(name, given), expected, (name, given))
                outcomes.add(expected[0])
            self.assertEqual(outcomes, {0, -1, -2} | BY_STEPS.get(name, {-3}), name)

    def test_every_step_is_the_nearest_double(self):
        seen = set()
        for name in ARGUMENTS:
            for step, which in STEPS.items():
                def watch(given, result):
                    x, y, z = (list(given) + [ZERO, ZERO])[:3]
                    self.assertEqual(result, other_step(which, x, y, z), (name, step, given))
                    seen.add(step)

                with contextlib.ExitStack() as stack:
                    watched(stack, step, watch)
                    for seed in range(12):
                        called(name, given_to(name, seed))
        self.assertEqual(seen, set(STEPS))

    def test_nothing_that_is_not_finite_is_told(self):
        for name in ARGUMENTS:
            for seed in range(1000, 1100):
                told = called(name, given_to(name, seed))
                self.assertTrue(all(type(x) is int for x in told), (name, told))
                if told[0] != 0:
                    self.assertEqual(len(told), 1)
                    self.assertIn(told[0], (-1, -2, -3, -4))
                else:
                    # The one number below 0 behind a 0 is lu's sign.
                    plain = told[1:-1] if name == "lu" else told[1:]
                    self.assertTrue(all(0 <= x < 2**64 and x & ~SIGN < INFINITE for x in plain), (name, told))

    def test_nothing_is_changed(self):
        for name in ARGUMENTS:
            for seed in range(60):
                given = given_to(name, seed)
                guarded = [Unchanging(part) if isinstance(part, list) else part for part in given]
                self.assertEqual(called(name, guarded), called(name, given), name)
                self.assertEqual(guarded, given_to(name, seed), name)
                self.assertEqual(given, given_to(name, seed), name)

    def test_nothing_is_kept_from_call_to_call(self):
        todo = [(name, given_to(name, seed)) for seed in range(12) for name in ARGUMENTS]
        first = [called(name, given) for name, given in todo]
        for numbers in first:
            numbers.append(7)
        again = [called(name, given) for name, given in reversed(todo)]
        self.assertEqual([numbers[:-1] for numbers in first], again[::-1])


class Refusals(unittest.TestCase):
    def test_in_their_order(self):
        # With each argument spoiled in turn, and all others so that a later refusal would come: the first is told.
        for name, arguments in ARGUMENTS.items():
            for place, argument in enumerate(arguments):
                for size in (0, 17, 2**64 - 1):
                    for fill in (ONE, INFINITE):
                        given = [[fill] * 9 if is_list(name, other) else 3 for other in arguments]
                        given[place] = [fill] * 300 if is_list(name, argument) else size
                        self.assertEqual(called(name, given), answer_by_words(name, given), (name, given))

    def test_by_the_sizes_ahead_of_what_is_not_finite(self):
        self.assertEqual(tables.qr(1, 2, [INFINITE] * 2), [-4])
        self.assertEqual(tables.least(1, 2, 1, [INFINITE] * 2, [INFINITE]), [-4])
        self.assertEqual(tables.rows(2, 1, [INFINITE] * 2, [0, 0]), [-2])
        self.assertEqual(tables.jacobi(2, 1, [ONE, ONE, INFINITE, ONE]), [-2])


class Divisions(unittest.TestCase):
    """What is divided by in lu, chol and qr isn't 0, and roots are of what isn't below 0."""

    def watching(self):
        stack = contextlib.ExitStack()
        watched(stack, "quotient", lambda given, result: self.assertNotEqual(given[1] & ~SIGN, 0))
        watched(stack, "root", lambda given, result: self.assertFalse(is_minus(given[0]) and given[0] != SIGN))
        return stack

    def test_of_many_tables(self):
        with self.watching():
            for name in ARGUMENTS:
                if name != "step":
                    for seed in range(60):
                        called(name, given_to(name, seed))

    def test_of_tables_that_come_to_0(self):
        with self.watching():
            for a in NOUGHT_COLUMNS + NOUGHT_AHEAD + (OVER_AHEAD,):
                n = side_of(a)
                for name in ("lu", "det", "inverse", "chol", "own"):
                    called(name, [n, a])
                tables.qr(n, n, a)
                tables.solve(n, n, a, a)
                tables.least(n, n, n, a, a)


class Lu(unittest.TestCase):
    def test_p_and_below_the_middle(self):
        seen = 0
        for n in range(1, 6):
            for seed in range(12):
                for a in squares(n, seed + 300):
                    told = tables.lu(n, a)
                    if told[0] == 0:
                        x, p = told[2:2 + n * n], told[3 + n * n:-1]
                        self.assertEqual(sorted(p), list(range(n)))
                        self.assertTrue(all(x[i * n + j] & ~SIGN <= ONE for i in range(n) for j in range(i)))
                        self.assertIn(told[-1], (1, -1))
                        seen += 1
        self.assertGreater(seen, 300)


if __name__ == "__main__":
    unittest.main()
