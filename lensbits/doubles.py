"""Doubles (IEEE 754, binary64), told by their 64 bits, and the steps that are taken with them.

Every step takes finite doubles and rounds its exact result once, to the nearest, of two to the even one.

Within a step a double is a whole number below 2^53 and a scale: it is whole 2^scale times the least double. So its bits
but for the sign are the scale, shifted in front of the fraction, plus the whole, also below the least normal double.
"""

SIGN_BIT = 0x8000000000000000
INFINITY = 0x7FF0000000000000
FRACTION_BITS = 52
PRECISION = 53

# The scale at which a whole number stands for itself: the least double is 2^-1074.
UNIT_SCALE = 1074

# Both are wide enough to leave bits below the half that decides a rounding, so that the
# lowest of them can stand for all that was cut off.
QUOTIENT_SHIFT = 108
ROOT_SHIFT = 110


class NoFiniteResult(ArithmeticError):
    pass


def is_finite(bits):
    return (bits & INFINITY) != INFINITY


def is_above_zero(finite):
    return 0 < finite < SIGN_BIT


def is_below_zero(finite):
    return finite > SIGN_BIT


def is_above(left, right):
    return in_order(left) > in_order(right)


def in_order(finite):
    # Both zeros become 0, so that neither is above the other.
    return finite if finite < SIGN_BIT else SIGN_BIT - finite


def double_of(whole):
    return rounded(SIGN_BIT if whole < 0 else 0, abs(whole), UNIT_SCALE)


def negative(finite):
    return finite ^ SIGN_BIT


def add(left, right):
    left_scale = scale_of(left)
    right_scale = scale_of(right)
    left_whole = whole_of(left, left_scale)
    right_whole = whole_of(right, right_scale)
    scale = left_scale
    if left_scale > right_scale:
        scale = right_scale
        left_whole = left_whole << (left_scale - scale)
    else:
        right_whole = right_whole << (right_scale - scale)
    total = left_whole + right_whole if sign_between(left, right) == 0 else left_whole - right_whole
    if total == 0:
        # IEEE 754: a sum that is exactly 0 keeps a sign only if both of its parts have it.
        return left & right & SIGN_BIT
    sign = left & SIGN_BIT
    return rounded(sign, total, scale) if total > 0 else rounded(sign ^ SIGN_BIT, -total, scale)


def subtract(left, right):
    return add(left, right ^ SIGN_BIT)


def multiply(left, right):
    left_scale = scale_of(left)
    right_scale = scale_of(right)
    whole = whole_of(left, left_scale) * whole_of(right, right_scale)
    return rounded(sign_between(left, right), whole, left_scale + right_scale - UNIT_SCALE)


def divide(above, below):
    above_scale = scale_of(above)
    below_scale = scale_of(below)
    divisor = whole_of(below, below_scale)
    if divisor == 0:
        raise NoFiniteResult()
    widened = whole_of(above, above_scale) << QUOTIENT_SHIFT
    quotient = marked(widened // divisor, widened % divisor)
    return rounded(sign_between(above, below), quotient, above_scale - below_scale + UNIT_SCALE - QUOTIENT_SHIFT)


def root(square):
    scale = scale_of(square)
    whole = whole_of(square, scale)
    if whole == 0:
        # IEEE 754: the root of a zero is that zero, with its sign.
        return square
    if square > SIGN_BIT:
        raise NoFiniteResult()
    # Only an even exponent can be halved.
    shift = ROOT_SHIFT + (scale - UNIT_SCALE) % 2
    widened = whole << shift
    half = whole_root(widened)
    return rounded(0, marked(half, widened - half * half), (scale - UNIT_SCALE - shift) // 2 + UNIT_SCALE)


def scale_of(finite):
    # Doubles below the least normal one have the scale of the least normal one.
    field = (finite & INFINITY) >> FRACTION_BITS
    return field - 1 if field > 0 else 0


def whole_of(finite, scale):
    return (finite & (SIGN_BIT - 1)) - (scale << FRACTION_BITS)


def sign_between(left, right):
    return (left ^ right) & SIGN_BIT


def marked(whole, rest):
    # A rest of any size only breaks ties, so one low bit tells enough of it.
    return whole if rest == 0 else whole | 1


def whole_root(number):
    # From a guess that is not below the root, the guesses fall until they reach it.
    guess = 1 << ((number.bit_length() + 1) // 2)
    nearer = (guess + number // guess) // 2
    while nearer < guess:
        guess = nearer
        nearer = (guess + number // guess) // 2
    return guess


def rounded(sign, whole, scale):
    if whole == 0:
        return sign
    drop = whole.bit_length() - PRECISION
    if drop < -scale:
        drop = -scale
    kept = nearest_even(whole, drop) if drop > 0 else whole << -drop
    # Added, not joined: a carry out of the fraction, and the bit above it, then raise the exponent by themselves.
    magnitude = ((scale + drop) << FRACTION_BITS) + kept
    if magnitude >= INFINITY:
        raise NoFiniteResult()
    return sign | magnitude


def nearest_even(whole, drop):
    # All but a half carries what is above a half; the odd bit lets a half carry too, so that the even one is left.
    odd = (whole >> drop) & 1
    return (whole + (1 << (drop - 1)) - 1 + odd) >> drop
