"""What the tests of every call share: the refusals ahead of all steps, and that nothing is changed or kept."""

import unittest

from tests.given import BAD_SIZES, GREATEST, INFINITE, NOT_FINITE, ONE

MOST_NUMBERS = 300


def refuse_a_change(*given):
    raise AssertionError("a list that was handed in is changed")


class Unchanging(list):
    """A list that fails at once where it's changed, were it only for a while."""

    __setitem__ = __delitem__ = __iadd__ = __imul__ = refuse_a_change
    append = extend = insert = pop = remove = clear = sort = reverse = refuse_a_change


class CallCase(unittest.TestCase):
    """call takes sizes and then lists; counts tells of the sizes how many numbers each list has."""

    def refuses_sizes(self, call, how_many, counts):
        for place in range(how_many):
            for bad in BAD_SIZES:
                for other in (1, 3):
                    sizes = [bad if place == k else other for k in range(how_many)]
                    right = [min(count, MOST_NUMBERS) for count in counts(*sizes)]
                    for fill in (ONE, GREATEST, INFINITE):
                        for lengths in (right, [0] * len(right), [1] * len(right)):
                            lists = [[fill] * length for length in lengths]
                            self.assertEqual(call(*sizes, *lists), [-1], (sizes, lengths))

    def refuses_counts(self, call, sizes, counts):
        right = counts(*sizes)
        for place, count in enumerate(right):
            for length in {0, count - 1, count + 1, 2 * count, MOST_NUMBERS}:
                for fill in (ONE, INFINITE):
                    for own in (ONE, INFINITE):
                        lists = [[fill] * other for other in right]
                        lists[place] = [own] * length
                        self.assertEqual(call(*sizes, *lists), [-1], (sizes, place, length))

    def refuses_not_finite(self, call, sizes, counts, fill):
        """fill is such that the steps would refuse, too: -2 comes ahead of that."""
        right = counts(*sizes)
        for place, count in enumerate(right):
            for k in range(count):
                for bad in NOT_FINITE:
                    lists = [[fill] * other for other in right]
                    lists[place][k] = bad
                    self.assertEqual(call(*sizes, *lists), [-2], (sizes, place, k))

    def keeps_nothing(self, call, lists):
        """call takes lists alone."""
        guarded = [Unchanging(numbers) for numbers in lists]
        first = call(*guarded)
        self.assertEqual(guarded, [list(numbers) for numbers in lists])
        kept = list(first)
        first.append(7)
        first[0] = 9
        self.assertEqual(call(*guarded), kept)
        self.assertEqual(call(*[list(numbers) for numbers in lists]), kept)
