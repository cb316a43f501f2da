"""The calls. Doubles are handed in and answered by their 64 bits."""

from lensbits.doubles import NoFiniteResult, add, divide, is_above_zero, is_finite, multiply, root, subtract

IMPOSSIBLE_NUMBER = -3
NO_FINITE_RESULT = -4

ONE = 0x3FF0000000000000


def index(wave, glass):
    if not all_finite([wave] + glass) or not is_above_zero(wave):
        return [IMPOSSIBLE_NUMBER]
    try:
        return [0, index_of_glass(wave, glass)]
    except NoFiniteResult:
        return [NO_FINITE_RESULT]


def all_finite(numbers):
    return all([is_finite(number) for number in numbers])


def index_of_glass(wave, glass):
    square = multiply(wave, wave)
    total = ONE
    for term in range(3):
        above = multiply(glass[term], square)
        below = subtract(square, glass[term + 3])
        total = add(total, divide(above, below))
    return root(total)
