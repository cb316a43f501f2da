"""The calls. Doubles are handed in and answered by their 64 bits."""

from lensbits.doubles import (
    NoFiniteResult, add, divide, double_of, is_above, is_above_zero, is_below_zero, is_finite, multiply, negative, root,
    subtract,
)

HOW_MANY = -2
IMPOSSIBLE_NUMBER = -3
NO_FINITE_RESULT = -4
MISSED = -5
THROWN_BACK = -6
STOPPED = -7
NO_RAY_LEFT = -5

MOST = 64
NUMBERS_OF_A_SURFACE = 4

ONE = 0x3FF0000000000000
TWO = 0x4000000000000000
THREE = 0x4008000000000000


class Missed(ArithmeticError):
    pass


class ThrownBack(ArithmeticError):
    pass


class Stopped(ArithmeticError):
    pass


class NoRayLeft(ArithmeticError):
    pass


class Surface:
    def __init__(self, numbers):
        self.curve = numbers[0]
        self.gap = numbers[1]
        self.behind = numbers[2]
        self.half = numbers[3]


# A ray on its way. Its place counts from the middle of the surface that it met last (of the first at the beginning).
class Light:
    def __init__(self, around, beam):
        self.x = beam[0]
        self.y = beam[1]
        self.z = beam[2]
        self.way_x = beam[3]
        self.way_y = beam[4]
        self.way_z = beam[5]
        self.path = 0
        self.around = around


def index(wave, glass):
    if not all_finite([wave] + glass) or not is_above_zero(wave):
        return [IMPOSSIBLE_NUMBER]
    try:
        return [0, index_of_glass(wave, glass)]
    except NoFiniteResult:
        return [NO_FINITE_RESULT]


def near(outer, surfaces):
    refusal = refusal_of_input(outer, surfaces, [], [])
    if refusal != 0:
        return [refusal]
    try:
        return [0] + near_the_axis(outer, in_a_row(surfaces))
    except NoFiniteResult:
        return [NO_FINITE_RESULT]


def ray(outer, surfaces, beam):
    refusal = refusal_of_input(outer, surfaces, beam, [])
    if refusal != 0:
        return [refusal]
    row = in_a_row(surfaces)
    light = Light(outer, beam)
    failure = failure_on_the_way(light, row)
    if failure != []:
        return failure
    try:
        end = end_of(light, row[-1].gap)
    except NoFiniteResult:
        return [NO_FINITE_RESULT, len(row)]
    return [0, end[0], end[1], light.way_x, light.way_y, light.way_z, end[2]]


def spot(outer, size, m, surfaces, way):
    refusal = refusal_of_input(outer, surfaces, [size] + way, [m])
    if refusal != 0:
        return [refusal]
    row = in_a_row(surfaces)
    try:
        return spot_of(lights_behind(outer, size, m, row, way), row[-1].gap)
    except NoFiniteResult:
        return [NO_FINITE_RESULT]


def focus(outer, size, m, steps, surfaces, way):
    refusal = refusal_of_input(outer, surfaces, [size] + way, [m, steps])
    if refusal != 0:
        return [refusal]
    row = in_a_row(surfaces)
    try:
        return [0, sharpest_gap(lights_behind(outer, size, m, row, way), steps, row[-1].gap)]
    except NoFiniteResult:
        return [NO_FINITE_RESULT]
    except NoRayLeft:
        return [NO_RAY_LEFT]


def refusal_of_input(outer, surfaces, others, counts):
    if not all([1 <= count <= MOST for count in [len(surfaces) // NUMBERS_OF_A_SURFACE] + counts]):
        return HOW_MANY
    if not all_finite([outer] + surfaces + others):
        return IMPOSSIBLE_NUMBER
    indexes = [outer] + surfaces[2::NUMBERS_OF_A_SURFACE]
    halves = surfaces[3::NUMBERS_OF_A_SURFACE]
    if not all([is_above_zero(number) for number in indexes + halves]):
        return IMPOSSIBLE_NUMBER
    return 0


def all_finite(numbers):
    return all([is_finite(number) for number in numbers])


def in_a_row(surfaces):
    row = []
    for start in range(0, len(surfaces), NUMBERS_OF_A_SURFACE):
        row.append(Surface(surfaces[start:start + NUMBERS_OF_A_SURFACE]))
    return row


def index_of_glass(wave, glass):
    square = multiply(wave, wave)
    total = ONE
    for term in range(3):
        above = multiply(glass[term], square)
        below = subtract(square, glass[term + 3])
        total = add(total, divide(above, below))
    return root(total)


def near_the_axis(outer, row):
    height = ONE
    turned = 0
    before = outer
    slope = 0
    for place, surface in enumerate(row):
        if place > 0:
            height = add(height, multiply(row[place - 1].gap, slope))
        power = multiply(surface.curve, subtract(surface.behind, before))
        turned = subtract(turned, multiply(height, power))
        slope = divide(turned, surface.behind)
        before = surface.behind
    end = add(height, multiply(row[-1].gap, slope))
    return [divide(negative(ONE), slope), divide(negative(height), slope), end]


def failure_on_the_way(light, row):
    for place, surface in enumerate(row):
        try:
            if place > 0:
                light.z = subtract(light.z, row[place - 1].gap)
            go_through(light, surface)
        except NoFiniteResult:
            return [NO_FINITE_RESULT, place]
        except Missed:
            return [MISSED, place]
        except ThrownBack:
            return [THROWN_BACK, place]
        except Stopped:
            return [STOPPED, place]
    return []


# The document's F, G, D, r and s: offset, slant, square, cosine and length.
def go_through(light, surface):
    offset = offset_from(light, surface.curve)
    slant = slant_to(light, surface.curve)
    square = subtract(multiply(slant, slant), multiply(surface.curve, offset))
    if is_below_zero(square):
        raise Missed()
    cosine = root(square)
    length = divide(offset, add(slant, cosine))
    move(light, length)
    if is_above(square_sum(light.x, light.y), multiply(surface.half, surface.half)):
        raise Stopped()
    bend(light, surface, square, cosine)
    light.path = add(light.path, multiply(light.around, length))
    light.around = surface.behind


def offset_from(light, curve):
    squares = add(square_sum(light.x, light.y), multiply(light.z, light.z))
    return subtract(multiply(curve, squares), multiply(TWO, light.z))


def slant_to(light, curve):
    across = add(multiply(light.x, light.way_x), multiply(light.y, light.way_y))
    total = add(across, multiply(light.z, light.way_z))
    return subtract(light.way_z, multiply(curve, total))


def square_sum(left, right):
    return add(multiply(left, left), multiply(right, right))


def move(light, length):
    light.x = add(light.x, multiply(length, light.way_x))
    light.y = add(light.y, multiply(length, light.way_y))
    light.z = add(light.z, multiply(length, light.way_z))


# The document's u, R, g and h: ratio, left, turn and curved.
def bend(light, surface, square, cosine):
    ratio = divide(light.around, surface.behind)
    left = subtract(ONE, multiply(multiply(ratio, ratio), subtract(ONE, square)))
    if is_below_zero(left):
        raise ThrownBack()
    turn = subtract(root(left), multiply(ratio, cosine))
    curved = multiply(turn, surface.curve)
    light.way_x = subtract(multiply(ratio, light.way_x), multiply(curved, light.x))
    light.way_y = subtract(multiply(ratio, light.way_y), multiply(curved, light.y))
    light.way_z = add(subtract(multiply(ratio, light.way_z), multiply(curved, light.z)), turn)


def end_of(light, gap):
    # The light itself is left as it is, so that its end can be told for another gap too.
    z = subtract(light.z, gap)
    length = divide(negative(z), light.way_z)
    x = add(light.x, multiply(length, light.way_x))
    y = add(light.y, multiply(length, light.way_y))
    return (x, y, add(light.path, multiply(light.around, length)))


def lights_behind(outer, size, m, row, way):
    starts = [multiply(size, divide(double_of(2 * number + 1 - m), double_of(m))) for number in range(m)]
    lights = []
    for y in starts:
        for x in starts:
            light = Light(outer, [x, y, 0] + way)
            if failure_on_the_way(light, row) == []:
                lights.append(light)
    return lights


def spot_of(lights, gap):
    ends = ends_of(lights, gap)
    if ends == []:
        return [0]
    count = double_of(len(ends))
    x = divide(total_of([end[0] for end in ends]), count)
    y = divide(total_of([end[1] for end in ends]), count)
    squares = [square_sum(subtract(end[0], x), subtract(end[1], y)) for end in ends]
    return [len(ends), x, y, root(divide(total_of(squares), count))]


def ends_of(lights, gap):
    ends = []
    for light in lights:
        try:
            ends.append(end_of(light, gap))
        except NoFiniteResult:
            continue
    return ends


def total_of(numbers):
    total = 0
    for number in numbers:
        total = add(total, number)
    return total


# The last gap comes into a ray only at its end, so the lights behind the last surface serve for every gap.
def sharpest_gap(lights, steps, gap):
    low = 0
    high = multiply(TWO, gap)
    for step in range(steps):
        third = divide(subtract(high, low), THREE)
        lower = add(low, third)
        higher = subtract(high, third)
        lower_spread = spread_at(lights, lower)
        if is_above(lower_spread, spread_at(lights, higher)):
            low = lower
        else:
            high = higher
    return divide(add(low, high), TWO)


def spread_at(lights, gap):
    told = spot_of(lights, gap)
    if told == [0]:
        raise NoRayLeft()
    return told[3]
