"""Doubles (IEEE 754, binary64), told by their 64 bits, and the steps that are taken with them.

Every step takes finite doubles and rounds its exact result once, to the nearest, of two to the even one.
"""

SIGN_BIT = 0x8000000000000000
INFINITY = 0x7FF0000000000000
IMPLIED_BIT = 0x0010000000000000
FRACTION_BITS = 52
PRECISION = 53
LEAST_EXPONENT = -1074

# Both are wide enough to leave bits below the half that decides a rounding, so that the
# lowest of them can stand for all that was cut off.
QUOTIENT_SHIFT = 108
ROOT_SHIFT = 110


class NoFiniteResult(ArithmeticError):
    pass


def is_finite(bits):
    return (bits & INFINITY) != INFINITY


def is_above_zero(finite):
    return 0 < finite < SIGN_BIT


def is_below_zero(finite):
    return finite > SIGN_BIT


def is_above(left, right):
    return in_order(left) > in_order(right)


def in_order(finite):
    # Both zeros become 0, so that neither is above the other.
    return finite if finite < SIGN_BIT else SIGN_BIT - finite


def add(left, right):
    exponent = min(exponent_of(left), exponent_of(right))
    total = scaled(left, exponent) + scaled(right, exponent)
    if total == 0:
        # IEEE 754: a sum that is exactly 0 keeps a sign only if both of its parts have it.
        return left & right & SIGN_BIT
    sign = SIGN_BIT if total < 0 else 0
    return rounded(sign, abs(total), exponent)


def subtract(left, right):
    return add(left, negative(right))


def negative(finite):
    return finite ^ SIGN_BIT


def multiply(left, right):
    exponent = exponent_of(left) + exponent_of(right)
    return rounded(sign_between(left, right), whole_of(left) * whole_of(right), exponent)


def divide(above, below):
    divisor = whole_of(below)
    if divisor == 0:
        raise NoFiniteResult()
    widened = whole_of(above) << QUOTIENT_SHIFT
    quotient = marked(widened // divisor, widened % divisor)
    exponent = exponent_of(above) - exponent_of(below) - QUOTIENT_SHIFT
    return rounded(sign_between(above, below), quotient, exponent)


def root(square):
    if whole_of(square) == 0:
        # IEEE 754: the root of a zero is that zero, with its sign.
        return square
    if square >= SIGN_BIT:
        raise NoFiniteResult()
    # Only an even exponent can be halved.
    shift = ROOT_SHIFT + exponent_of(square) % 2
    widened = whole_of(square) << shift
    whole = whole_root(widened)
    return rounded(0, marked(whole, widened - whole * whole), (exponent_of(square) - shift) // 2)


def exponent_of(finite):
    # Doubles below the least normal one have the exponent of the least normal one.
    return max((finite & INFINITY) >> FRACTION_BITS, 1) - 1 + LEAST_EXPONENT


def whole_of(finite):
    fraction = finite & (IMPLIED_BIT - 1)
    return fraction if (finite & INFINITY) == 0 else fraction | IMPLIED_BIT


def scaled(finite, exponent):
    whole = whole_of(finite) << (exponent_of(finite) - exponent)
    return -whole if finite >= SIGN_BIT else whole


def sign_between(left, right):
    return (left ^ right) & SIGN_BIT


def marked(whole, rest):
    # A rest of any size only breaks ties, so one low bit tells enough of it.
    return whole if rest == 0 else whole | 1


def whole_root(number):
    # From a guess that is not below the root, the guesses fall until they reach it.
    guess = 1 << ((number.bit_length() + 1) // 2)
    nearer = (guess + number // guess) // 2
    while nearer < guess:
        guess = nearer
        nearer = (guess + number // guess) // 2
    return guess


def rounded(sign, whole, exponent):
    if whole == 0:
        return sign
    drop = max(whole.bit_length() - PRECISION, LEAST_EXPONENT - exponent)
    kept = nearest_even(whole, drop) if drop > 0 else whole << -drop
    # Added, not joined: a carry out of the fraction, and the implied bit, then raise the exponent by themselves.
    magnitude = ((exponent + drop - LEAST_EXPONENT) << FRACTION_BITS) + kept
    if magnitude >= INFINITY:
        raise NoFiniteResult()
    return sign | magnitude


def nearest_even(whole, drop):
    kept = whole >> drop
    rest = whole - (kept << drop)
    half = 1 << (drop - 1)
    if rest > half or (rest == half and kept % 2 == 1):
        return kept + 1
    return kept
