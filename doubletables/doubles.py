"""Doubles of IEEE 754 as their 64 bits, and the steps on them, each rounded once.

A double is worth its whole number times 2 to its power, with its sign ahead.
"""

SIGN_BIT = 0x8000000000000000
INFINITE = 0x7FF0000000000000
ONE = 0x3FF0000000000000
FRACTION_BITS = 52
LEAST_POWER = -1074
# So many binary places more than a whole number of 53 bits needs: even, so that a root halves it,
# and wide enough that what a quotient or a root leaves over lies well below its half-way bit.
WIDER = 112


class StepNotFinite(Exception):
    pass


def sign_of(x):
    return x >> 63


def size_of(x):
    return x & (SIGN_BIT - 1)


def opposite(x):
    return x ^ SIGN_BIT


def is_finite(x):
    return size_of(x) < INFINITE


def is_zero(x):
    return size_of(x) == 0


def rank_of(x):
    # A whole number that rises as the values do: 0 for -0 too, and below 0 where x is.
    return -size_of(x) if sign_of(x) == 1 else size_of(x)


def is_equal(x, y):
    return rank_of(x) == rank_of(y)


def whole_of(x):
    fraction = x & ((1 << FRACTION_BITS) - 1)
    if size_of(x) == fraction:
        return fraction
    return fraction + (1 << FRACTION_BITS)


def signed_whole(x):
    return -whole_of(x) if sign_of(x) == 1 else whole_of(x)


def power_of(x):
    # The smallest doubles, whose exponent is written 0, have the power of those written 1.
    return max(size_of(x) >> FRACTION_BITS, 1) - 1 + LEAST_POWER


def nearest_whole(whole, drop):
    # The whole number nearest to whole / 2^drop, the even one of two that are as near.
    if drop <= 0:
        return whole << -drop
    kept = whole >> drop
    left = whole - (kept << drop)
    half = 1 << (drop - 1)
    if left > half or (left == half and kept % 2 == 1):
        return kept + 1
    return kept


def rounded(sign, whole, power):
    if whole == 0:
        return sign << 63
    drop = max(whole.bit_length() - FRACTION_BITS - 1, LEAST_POWER - power)
    kept = nearest_whole(whole, drop)
    # Added, not joined: the leading bit of kept, and one carried by rounding up, raise the exponent.
    size = ((power + drop - LEAST_POWER) << FRACTION_BITS) + kept
    if size >= INFINITE:
        raise StepNotFinite()
    return (sign << 63) + size


def rounded_with_rest(sign, whole, left, power):
    # Of what is left over it only matters that it is not 0: one more bit behind whole tells that.
    behind = 0 if left == 0 else 1
    return rounded(sign, whole * 2 + behind, power - 1)


def fused(x, y, z):
    power = power_of(x) + power_of(y)
    low = min(power, power_of(z))
    product_part = (signed_whole(x) * signed_whole(y)) << (power - low)
    total = product_part + (signed_whole(z) << (power_of(z) - low))
    if total == 0:
        # Two that are below 0 never come to 0, so two minus signs here are those of two -0.
        return ((sign_of(x) ^ sign_of(y)) & sign_of(z)) << 63
    return rounded(1 if total < 0 else 0, abs(total), low)


def plus(x, y):
    # x times 1 is x, its sign too, and F is rounded once: so this is x + y to the last bit.
    return fused(x, ONE, y)


def minus(x, y):
    return plus(x, opposite(y))


def product(x, y):
    return rounded(sign_of(x) ^ sign_of(y), whole_of(x) * whole_of(y), power_of(x) + power_of(y))


def quotient(x, y):
    if is_zero(y):
        raise StepNotFinite()
    widened = whole_of(x) << WIDER
    whole = widened // whole_of(y)
    left = widened % whole_of(y)
    return rounded_with_rest(sign_of(x) ^ sign_of(y), whole, left, power_of(x) - power_of(y) - WIDER)


def whole_root(whole):
    # Newton's way from above: the guesses fall until the root, rounded down, is reached.
    guess = 1 << ((whole.bit_length() + 1) // 2)
    better = (guess + whole // guess) // 2
    while better < guess:
        guess = better
        better = (guess + whole // guess) // 2
    return guess


def root(x):
    if is_zero(x):
        return x
    if sign_of(x) == 1:
        raise StepNotFinite()
    odd = power_of(x) % 2
    widened = whole_of(x) << (WIDER + odd)
    whole = whole_root(widened)
    return rounded_with_rest(0, whole, widened - whole * whole, (power_of(x) - odd - WIDER) // 2)
