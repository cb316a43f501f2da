"""Rows of surfaces that the tests share."""

from tests.bits import bits_of, mixed_words

# A doublet: curve, gap, index, half.
DOUBLET = [
    [0.0163, 6.0, 1.5168, 12.5],
    [-0.0224, 2.5, 1.6727, 12.5],
    [-0.0075, 97.0, 1.0, 12.5],
]

# Curved either way and flat, so that light goes through all of it.
FLAT_AND_CURVED = [
    [0.02, 3.0, 1.5, 10.0],
    [0.0, 2.0, 1.7, 10.0],
    [-0.03, 4.0, 1.0, 10.0],
    [-0.0, 1.0, 1.6, 10.0],
    [-0.011, 40.0, 1.0, 10.0],
]

# A surface that lets all light through that is not far out, and changes nothing but its path.
PANE = [0.0, 1.0, 1.0, 100.0]


def words_of(surfaces):
    return [bits_of(number) for surface in surfaces for number in surface]


def long_row(count):
    """count surfaces, weak ones, in and out of glass."""
    surfaces = []
    for number in range(count):
        curve = (number % 7 - 3) * 0.0011
        surfaces.append([curve, 0.4 + number % 3 * 0.3, 1.0 if number % 2 else 1.5 + number % 5 * 0.03, 20.0])
    return surfaces


def shares(seed, count):
    """count numbers from 0 to below 1."""
    return [(word >> 11) / 2 ** 53 for word in mixed_words(seed, count)]


def drawn_surfaces(drawn, half=9.0):
    """A surface of every four of drawn: of the kind that is built."""
    surfaces = []
    for start in range(0, len(drawn) - 3, 4):
        first, second, third, fourth = drawn[start:start + 4]
        curve = 0.0 if fourth < 0.1 else (first - 0.5) / 8
        surfaces.append([curve, 6 * second, 1 + 0.9 * third if start % 8 == 0 else 1.0 + third / 5, half])
    return surfaces


def with_number(surfaces, place, number):
    """The words of surfaces but for the one at place."""
    changed = list(surfaces)
    changed[place] = number
    return changed


def words(numbers):
    return [bits_of(number) for number in numbers]
