"""Doubles, told by their 64 bits and reckoned in whole numbers alone.

Every double handed to plus, minus, times and divided is finite; where what they make is not, they raise NotFinite.
"""

SIGN_BIT = 0x8000000000000000
INFINITY = 0x7FF0000000000000
FRACTION_BITS = 0x000FFFFFFFFFFFFF
HIDDEN_BIT = 0x0010000000000000

# Powers of two are counted from the finest step of all doubles, 2^-1074, so that they need no sign:
# a double's number is size_of * 2^(power_of - 1074).
POWER_OF_ONE = 1074


class NotFinite(Exception):
    pass


def finite(x):
    if x & INFINITY == INFINITY:
        raise NotFinite()
    return x


def sign_of(x):
    return x & SIGN_BIT


def without_sign(x):
    return x & (SIGN_BIT - 1)


def is_zero(x):
    return without_sign(x) == 0


def same_number(x, y):
    # The two zeros are one number, though their bits differ.
    return x == y or (is_zero(x) and is_zero(y))


def rank_of(x):
    # Without the sign, finite doubles stand in the order of their bits; both zeros come to the one rank 0.
    return -without_sign(x) if sign_of(x) else without_sign(x)


def less(x, y):
    return rank_of(x) < rank_of(y)


def power_of(x):
    # Denormals share their step with the smallest of the others.
    return max((x & INFINITY) >> 52, 1) - 1


def size_of(x):
    if x & INFINITY == 0:
        return x & FRACTION_BITS
    return (x & FRACTION_BITS) | HIDDEN_BIT


def signed_size(x, power):
    size = size_of(x) << (power_of(x) - power)
    return -size if sign_of(x) else size


def rounded(size, drop):
    if drop <= 0:
        return size << -drop
    kept = size >> drop
    rest = size - (kept << drop)
    half = 1 << (drop - 1)
    if rest > half or (rest == half and kept % 2 == 1):
        return kept + 1
    return kept


def nearest(sign, size, power):
    if size == 0:
        return sign
    # 53 bits are kept, fewer where the last of them would lie below the finest step.
    drop = max(size.bit_length() - 53, -power)
    # The hidden bit is added to the power's place, so that denormals, and carries into the next power, come out right.
    bits = ((power + drop) << 52) + rounded(size, drop)
    if bits >= INFINITY:
        raise NotFinite()
    return sign | bits


def from_count(count):
    return nearest(0, count, POWER_OF_ONE)


def plus(x, y):
    power = min(power_of(x), power_of(y))
    total = signed_size(x, power) + signed_size(y, power)
    if total == 0:
        # Only -0 + -0 is -0; whatever else comes to nothing is +0.
        return sign_of(x & y)
    return nearest(SIGN_BIT if total < 0 else 0, abs(total), power)


def minus(x, y):
    return plus(x, y ^ SIGN_BIT)


def times(x, y):
    return nearest(sign_of(x ^ y), size_of(x) * size_of(y), power_of(x) + power_of(y) - POWER_OF_ONE)


def divided(x, y):
    if is_zero(y):
        raise NotFinite()
    # 108 places more leave the quotient at least 56 bits, so the bit that stands for the rest is never one that counts
    # by itself: it only tells a tie from what lies above it.
    widened = size_of(x) << 108
    rest = 1 if widened % size_of(y) else 0
    size = widened // size_of(y) * 2 + rest
    return nearest(sign_of(x ^ y), size, power_of(x) - power_of(y) + POWER_OF_ONE - 109)
