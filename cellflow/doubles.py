"""IEEE 754's doubles of 64 bits, each told by its bits as a whole number.

Every finite double is a whole number of steps of the size of the one nearest to 0, so it is worked with here as
mantissa * two to the exponent, counted in such steps, with an exponent of 0 or more. Only finite doubles are handed in.
"""

ZERO = 0
HALF = 0x3FE0000000000000
ONE = 0x3FF0000000000000
ONE_AND_A_HALF = 0x3FF8000000000000
THREE = 0x4008000000000000

SIGN = 0x8000000000000000
INFINITY = 0x7FF0000000000000
FRACTION = 0x000FFFFFFFFFFFFF
HIDDEN_BIT = 0x0010000000000000

FRACTION_BITS = 52
MANTISSA_BITS = 53
# In steps, 1 is two to the power of this.
EXPONENT_OF_ONE = 1074
# Makes every quotient of two mantissas longer than a mantissa by more than the two bits that rounding looks at.
QUOTIENT_BITS = 110


class NotFinite(Exception):
    pass


def is_finite(x):
    return (x & INFINITY) != INFINITY


def exponent(x):
    # Those near 0 have no hidden bit, but the same exponent as the smallest that have one.
    if (x & INFINITY) == 0:
        return 0
    return ((x & INFINITY) >> FRACTION_BITS) - 1


def mantissa(x):
    if (x & INFINITY) == 0:
        return x & FRACTION
    return (x & FRACTION) | HIDDEN_BIT


# The double nearest to whole * two to the power, in steps; of two as near, the even one. sign is 0 or SIGN.
def rounded(sign, whole, power):
    if whole == 0:
        return sign
    spare = whole.bit_length() - MANTISSA_BITS
    if spare < -power:
        spare = -power
    if spare > 0:
        half = 1 << (spare - 1)
        odd = (whole >> spare) & 1
        kept = (whole + half - 1 + odd) >> spare
    else:
        kept = whole << -spare
    # Added, not joined: the hidden bit counts the exponent up by one, and so does a mantissa that was rounded up
    # to the next power of two.
    bits = ((power + spare) << FRACTION_BITS) + kept
    if bits >= INFINITY:
        raise NotFinite()
    return sign | bits


def opposite(x):
    return x ^ SIGN


def add(x, y):
    x_power = exponent(x)
    y_power = exponent(y)
    x_whole = mantissa(x)
    # Seen from x's side, so that only y's sign is to be looked at.
    y_whole = mantissa(y) if ((x ^ y) & SIGN) == 0 else -mantissa(y)
    if x_power > y_power:
        power = y_power
        total = (x_whole << (x_power - y_power)) + y_whole
    else:
        power = x_power
        total = x_whole + (y_whole << (y_power - x_power))
    if total == 0:
        # Two opposite ones make +0; only -0 and -0 make -0.
        return x & y & SIGN
    if total < 0:
        return rounded(y & SIGN, -total, power)
    return rounded(x & SIGN, total, power)


def subtract(x, y):
    return add(x, opposite(y))


def multiply(x, y):
    power = exponent(x) + exponent(y) - EXPONENT_OF_ONE
    return rounded((x ^ y) & SIGN, mantissa(x) * mantissa(y), power)


def divide(x, y):
    divisor = mantissa(y)
    if divisor == 0:
        raise NotFinite()
    dividend = mantissa(x) << QUOTIENT_BITS
    whole = dividend // divisor
    if whole * divisor != dividend:
        # The last bit lies far below what is kept: it only tells rounding that this is no tie.
        whole = whole | 1
    power = exponent(x) - exponent(y) + EXPONENT_OF_ONE - QUOTIENT_BITS
    return rounded((x ^ y) & SIGN, whole, power)
