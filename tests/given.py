"""What the tests share: doubles by name, a row of numbers to try, and the steps reckoned another way.

The other way is Python's fractions, turned into the nearest double by Python's own division of whole numbers.
"""

import itertools
import math
import struct
from fractions import Fraction

SIGN = 1 << 63
ZERO = 0
MINUS_ZERO = SIGN
ONE = 0x3FF0000000000000
LEAST = 1
LEAST_NORMAL = 1 << 52
GREATEST = 0x7FEFFFFFFFFFFFFF
INFINITE = 0x7FF0000000000000
BAD_SIZES = (0, 17, 18, 300, 2**32, 2**64 - 1)
NOT_FINITE = (
    INFINITE, INFINITE | SIGN, INFINITE + 1, 0x7FF8000000000000, 0xFFF8000000000000, 0x7FFFFFFFFFFFFFFF, 2**64 - 1,
)
EDGES = tuple(
    size | sign
    for size in (
        0, 1, 2, 3, LEAST_NORMAL - 1, LEAST_NORMAL, LEAST_NORMAL + 1, 2 * LEAST_NORMAL, 0x3CA0000000000000,
        0x1FF0000000000000, 0x1FF8000000000001, 0x3FDFFFFFFFFFFFFF, 0x3FE0000000000000, 0x3FE0000000000001,
        0x3FEFFFFFFFFFFFFF, ONE, ONE + 1, 0x3FF8000000000000, 0x4000000000000000, 0x4008000000000000,
        0x4340000000000000, 0x433FFFFFFFFFFFFF, 0x5FEFFFFFFFFFFFFF, 0x5FF0000000000000, GREATEST - 1, GREATEST,
        0x7FE0000000000000, 0x7CA0000000000000, 0x7C90000000000000, 0x7C8FFFFFFFFFFFFF,
    )
    for sign in (0, SIGN)
)


def bits(value):
    return struct.unpack("<Q", struct.pack("<d", value))[0]


def all_bits(values):
    return [bits(value) for value in values]


def value_of(x):
    return struct.unpack("<d", struct.pack("<Q", x))[0]


def minus_sign(x):
    return x ^ SIGN


def endless(seed):
    state = seed
    while True:
        state = (state * 6364136223846793005 + 1442695040888963407) % 2**64
        mixed = ((state >> 29) ^ state) * 0xBF58476D1CE4E5B9 % 2**64
        yield mixed ^ (mixed >> 32)


def stream(seed, count):
    return list(itertools.islice(endless(seed), count))


def near_doubles(seed, count, spread):
    """Finite doubles whose exponents lie within spread of 1's, so that sums of them lose digits."""
    return [
        (number & (SIGN | (LEAST_NORMAL - 1))) | ((1023 - spread + (number >> 52) % (2 * spread + 1)) << 52)
        for number in stream(seed, count)
    ]


def wide_doubles(seed, count):
    """Finite doubles of all exponents."""
    return [
        (number & (SIGN | (LEAST_NORMAL - 1))) | (((number >> 52) % 2047) << 52)
        for number in stream(seed, count)
    ]


def great_doubles(seed, count):
    """Finite doubles of the four greatest exponents, so that sums of them are beyond the greatest now and then."""
    return [
        (number & (SIGN | (LEAST_NORMAL - 1))) | ((2043 + (number >> 52) % 4) << 52) for number in stream(seed, count)
    ]


def short_doubles(seed, count):
    """Doubles of few bits, so that results lie exactly half-way, or are 0, often."""
    return [
        bits(math.ldexp(number % 15 - 7, (number >> 8) % 3 * 26 - 26)) for number in stream(seed, count)
    ]


def small_doubles(seed, count):
    """Whole numbers from -2 to 2, -0 among them, so that equals and zeros meet often."""
    return [
        MINUS_ZERO if number % 40 == 0 else bits(float(number % 5 - 2)) for number in stream(seed, count)
    ]


def exact(x):
    return Fraction(value_of(x))


def is_minus(x):
    return x >> 63 == 1


def nearest(fraction, minus_if_zero):
    """The bits of the nearest double, None beyond the greatest."""
    if fraction == 0:
        return MINUS_ZERO if minus_if_zero else ZERO
    try:
        size = bits(abs(fraction).numerator / fraction.denominator)
    except OverflowError:
        return None
    return size | (SIGN if fraction < 0 else 0)


def other_f(x, y, z):
    both_minus = (is_minus(x) != is_minus(y)) and is_minus(z)
    return nearest(exact(x) * exact(y) + exact(z), both_minus)


def other_step(which, x, y, z):
    """The bits of the step's result, None where it isn't finite."""
    if which == 0:
        return nearest(exact(x) + exact(y), is_minus(x) and is_minus(y))
    if which == 1:
        return nearest(exact(x) - exact(y), is_minus(x) and not is_minus(y))
    if which == 2:
        return nearest(exact(x) * exact(y), is_minus(x) != is_minus(y))
    if which == 3:
        if exact(y) == 0:
            return None
        return nearest(exact(x) / exact(y), is_minus(x) != is_minus(y))
    if which == 4:
        return None if exact(x) < 0 else bits(math.sqrt(value_of(x)))
    return other_f(x, y, z)


def other_chain(pairs, start):
    """F along the pairs, from start on: None as soon as a step isn't finite."""
    s = start
    for x, y in pairs:
        s = other_f(x, y, s)
        if s is None:
            return None
    return s


def told(numbers):
    """The answer that a call gives, by the numbers of one table: -3 where one isn't finite."""
    if None in numbers:
        return [-3]
    return [0, len(numbers)] + numbers
