"""The calls once more, as the document words them, with the machine's own doubles: what the tests set answers against.

A Double takes one step at a time and refuses a step without a finite result. Nothing of the program is used here.
"""

import math

from tests.bits import bits_of, double_of


class NotFinite(Exception):
    pass


class Double:
    def __init__(self, number):
        if not math.isfinite(number):
            raise NotFinite()
        self.number = float(number)

    def __add__(self, other):
        return Double(self.number + other.number)

    def __sub__(self, other):
        return Double(self.number - other.number)

    def __mul__(self, other):
        return Double(self.number * other.number)

    def __truediv__(self, other):
        if other.number == 0:
            raise NotFinite()
        return Double(self.number / other.number)

    def __neg__(self):
        return Double(-self.number)

    def __lt__(self, other):
        return self.number < other.number

    def root(self):
        if self.number < 0:
            raise NotFinite()
        return Double(math.sqrt(self.number))

    def bits(self):
        return bits_of(self.number)


ZERO, ONE, TWO, THREE = (Double(number) for number in (0, 1, 2, 3))


def doubles(words):
    return [Double(double_of(word)) for word in words]


def told(numbers):
    return [number.bits() for number in numbers]


def rows(surfaces):
    numbers = doubles(surfaces)
    return [numbers[start:start + 4] for start in range(0, len(numbers), 4)]


def refused(outer, surfaces, others=(), counts=()):
    if not surfaces or not all(1 <= count <= 64 for count in counts):
        return [-2]
    numbers = [double_of(word) for word in [outer, *surfaces, *others]]
    above = [numbers[0], *numbers[3:1 + len(surfaces):4], *numbers[4:1 + len(surfaces):4]]
    if not all(map(math.isfinite, numbers)) or min(above) <= 0:
        return [-3]
    return []


def near(outer, surfaces):
    if refused(outer, surfaces):
        return refused(outer, surfaces)
    try:
        return [0] + told(near_doubles(Double(double_of(outer)), rows(surfaces)))
    except NotFinite:
        return [-4]


def near_doubles(n, surfaces):
    y, p = ONE, ZERO
    for c, gap, index, _ in surfaces[:-1]:
        p = p - y * (c * (index - n))
        y = y + gap * (p / index)
        n = index
    c, gap, index, _ = surfaces[-1]
    p = p - y * (c * (index - n))
    u = p / index
    return [-ONE / u, -y / u, y + gap * u]


class Failed(Exception):
    def __init__(self, how, place):
        super().__init__()
        self.how = how
        self.place = place


def ray(outer, surfaces, beam):
    if refused(outer, surfaces, beam):
        return refused(outer, surfaces, beam)
    try:
        return [0] + told(ray_doubles(Double(double_of(outer)), rows(surfaces), doubles(beam)))
    except Failed as failed:
        return [failed.how, failed.place]


def ray_doubles(n, surfaces, beam):
    x, y, z, L, M, N = beam
    path = ZERO
    place = 0
    try:
        for place, (c, gap, index, half) in enumerate(surfaces):
            if place > 0:
                z = z - surfaces[place - 1][1]
            F = c * ((x * x + y * y) + z * z) - TWO * z
            G = N - c * ((x * L + y * M) + z * N)
            D = G * G - c * F
            if D < ZERO:
                raise Failed(-5, place)
            r = D.root()
            s = F / (G + r)
            x = x + s * L
            y = y + s * M
            z = z + s * N
            if half * half < x * x + y * y:
                raise Failed(-7, place)
            u = n / index
            R = ONE - (u * u) * (ONE - D)
            if R < ZERO:
                raise Failed(-6, place)
            g = R.root() - u * r
            h = g * c
            L = u * L - h * x
            M = u * M - h * y
            N = (u * N - h * z) + g
            path = path + n * s
            n = index
        place = len(surfaces)
        z = z - surfaces[-1][1]
        s = -z / N
        return [x + s * L, y + s * M, L, M, N, path + n * s]
    except NotFinite:
        raise Failed(-4, place) from None


def spot(outer, size, m, surfaces, way):
    if refused(outer, surfaces, [size, *way], [m]):
        return refused(outer, surfaces, [size, *way], [m])
    try:
        return spot_numbers(double_of(outer), double_of(size), m, rows(surfaces), doubles(way))
    except NotFinite:
        return [-4]


def ends(outer, size, m, surfaces, way):
    reached = []
    for j in range(m):
        for i in range(m):
            x = Double(size) * (Double(2 * i + 1 - m) / Double(m))
            y = Double(size) * (Double(2 * j + 1 - m) / Double(m))
            try:
                reached.append(ray_doubles(Double(outer), surfaces, [x, y, ZERO, *way])[:2])
            except Failed:
                pass
    return reached


def spot_numbers(outer, size, m, surfaces, way):
    reached = ends(outer, size, m, surfaces, way)
    if not reached:
        return [0]
    n = Double(len(reached))
    X = Y = S = ZERO
    for x, y in reached:
        X = X + x
        Y = Y + y
    X = X / n
    Y = Y / n
    for x, y in reached:
        S = S + ((x - X) * (x - X) + (y - Y) * (y - Y))
    return [len(reached), *told([X, Y, (S / n).root()])]


def focus(outer, size, m, steps, surfaces, way):
    if refused(outer, surfaces, [size, *way], [m, steps]):
        return refused(outer, surfaces, [size, *way], [m, steps])
    try:
        return [0, focus_double(double_of(outer), double_of(size), m, steps, rows(surfaces), doubles(way)).bits()]
    except NotFinite:
        return [-4]
    except NoneLeft:
        return [-5]


class NoneLeft(Exception):
    pass


def focus_double(outer, size, m, steps, surfaces, way):
    """Every gap is tried with all of spot, from the first surface on."""

    def third_number(gap):
        c, _, index, half = surfaces[-1]
        numbers = spot_numbers(outer, size, m, surfaces[:-1] + [[c, gap, index, half]], way)
        if numbers == [0]:
            raise NoneLeft()
        return Double(double_of(numbers[3]))

    a = ZERO
    b = TWO * surfaces[-1][1]
    for _ in range(steps):
        c = a + (b - a) / THREE
        d = b - (b - a) / THREE
        with_c = third_number(c)
        with_d = third_number(d)
        if not with_d < with_c:
            b = d
        else:
            a = c
    return (a + b) / TWO
