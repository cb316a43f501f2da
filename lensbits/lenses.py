"""The calls. Doubles are handed in and answered by their 64 bits."""

from lensbits.doubles import (
    NoFiniteResult, add, divide, is_above_zero, is_finite, multiply, negative, root, subtract,
)

HOW_MANY = -2
IMPOSSIBLE_NUMBER = -3
NO_FINITE_RESULT = -4

MOST_SURFACES = 64
NUMBERS_OF_A_SURFACE = 4

ONE = 0x3FF0000000000000


class Surface:
    def __init__(self, numbers):
        self.curve = numbers[0]
        self.gap = numbers[1]
        self.behind = numbers[2]
        self.half = numbers[3]


def index(wave, glass):
    if not all_finite([wave] + glass) or not is_above_zero(wave):
        return [IMPOSSIBLE_NUMBER]
    try:
        return [0, index_of_glass(wave, glass)]
    except NoFiniteResult:
        return [NO_FINITE_RESULT]


def near(outer, surfaces):
    refusal = refusal_of_input(outer, surfaces, [])
    if refusal != 0:
        return [refusal]
    try:
        return [0] + near_the_axis(outer, in_a_row(surfaces))
    except NoFiniteResult:
        return [NO_FINITE_RESULT]


def refusal_of_input(outer, surfaces, others):
    if not 1 <= len(surfaces) // NUMBERS_OF_A_SURFACE <= MOST_SURFACES:
        return HOW_MANY
    if not all_finite([outer] + surfaces + others):
        return IMPOSSIBLE_NUMBER
    indexes = [outer] + surfaces[2::NUMBERS_OF_A_SURFACE]
    halves = surfaces[3::NUMBERS_OF_A_SURFACE]
    if not all([is_above_zero(number) for number in indexes + halves]):
        return IMPOSSIBLE_NUMBER
    return 0


def all_finite(numbers):
    return all([is_finite(number) for number in numbers])


def in_a_row(surfaces):
    row = []
    for start in range(0, len(surfaces), NUMBERS_OF_A_SURFACE):
        row.append(Surface(surfaces[start:start + NUMBERS_OF_A_SURFACE]))
    return row


def index_of_glass(wave, glass):
    square = multiply(wave, wave)
    total = ONE
    for term in range(3):
        above = multiply(glass[term], square)
        below = subtract(square, glass[term + 3])
        total = add(total, divide(above, below))
    return root(total)


def near_the_axis(outer, row):
    height = ONE
    bend = 0
    before = outer
    slope = 0
    for place, surface in enumerate(row):
        if place > 0:
            height = add(height, multiply(row[place - 1].gap, slope))
        power = multiply(surface.curve, subtract(surface.behind, before))
        bend = subtract(bend, multiply(height, power))
        slope = divide(bend, surface.behind)
        before = surface.behind
    end = add(height, multiply(row[-1].gap, slope))
    return [divide(negative(ONE), slope), divide(negative(height), slope), end]
