"""Promise 3: ray."""

import unittest

from lensbits.lenses import ray
from tests import machine
from tests.bits import (
    GREATEST, LEAST, NOT_ABOVE_ZERO, NOT_FINITE, ONE, SIGN,
    bits_of, double_of, is_finite, mixed_words, negative, power,
)
from tests.calls import EachCallByItself
from tests.samples import (
    DOUBLET, FLAT_AND_CURVED, PANE, drawn_surfaces, long_row, shares, with_number, words, words_of,
)

SLANTED = [1.5, -2.25, -3.0, 0.02, 0.03, 0.99935]
STRAIGHT = [1.0, 2.0, -3.0, 0.0, 0.0, 1.0]


def ask(outer, surfaces, beam):
    return ray(bits_of(outer), words_of(surfaces), words(beam))


def numbers(told):
    return [double_of(word) for word in told[1:]]


class Ordinary(unittest.TestCase):
    def test_one_surface(self):
        self.assertEqual(ask(1.0, DOUBLET[:1], SLANTED), [
            0, 0x3FF968784F099620, 0xBFFF824A3E264152,
            0x3F72784EADCB51AC, 0x3FA04484C32C8327, 0x3FEFFBC809A2F455, 0x402827B292B10E2B])

    def test_two_surfaces(self):
        self.assertEqual(ask(1.0, DOUBLET[:2], SLANTED), [
            0, 0x3FF9B5445CC75901, 0xBFFE878B2EEB11E0,
            0x3F7E5DEEB566F618, 0x3F99466ACC837913, 0x3FEFFD47934A2863, 0x4030459848AAEE1E])

    def test_flat_and_curved_either_way(self):
        self.assertEqual(ask(1.0, FLAT_AND_CURVED, SLANTED), [
            0, 0xBFBD3451197AE0E0, 0x4005279579BCE10C,
            0xBFA3BAA67BD55499, 0x3FBAB15FDA6120A9, 0x3FEFCD3B05812402, 0x404C5481B6529686])

    def test_64_surfaces(self):
        self.assertEqual(ask(1.0, long_row(64), SLANTED), [
            0, 0x4002730279F09659, 0xBFF17868875C40C1,
            0x3F8F2C1527AD4618, 0x3FA04AA0D4B4A170, 0x3FEFFAE77521C4F9, 0x404E04FBAB271571])

    def test_flat_in_whole_numbers(self):
        # 3 to the surface, and then 4 in an index of 2.
        self.assertEqual(ask(1.0, [[0.0, 4.0, 2.0, 9.0]], STRAIGHT), [0] + words([1.0, 2.0, 0.0, 0.0, 1.0, 11.0]))

    def test_curved_in_whole_numbers(self):
        # In the middle of a ball of which the surface is 1 away: F = 3, G = 2, D = 1, s = 1, u = 2, R = 1, g = -1,
        # h = 1 where c = -1; N = (2 - 0) - 1.
        self.assertEqual(
            ask(2.0, [[-1.0, 2.0, 1.0, 9.0]], [0.0, 0.0, -1.0, 0.0, 0.0, 1.0]),
            [0] + words([0.0, 0.0, 0.0, 0.0, 1.0, 4.0]))
        # As far out as the ball: F = 1, G = 1, D = 0, s = 1, u = 1, R = 0, g = 0.
        self.assertEqual(
            ask(1.0, [[1.0, 3.0, 1.0, 9.0]], [1.0, 0.0, 0.0, 0.0, 0.0, 1.0]),
            [0] + words([1.0, 0.0, 0.0, 0.0, 1.0, 3.0]))

    def test_a_way_that_is_not_1_long(self):
        self.assertEqual(
            ask(1.0, [PANE], [0.0, 0.0, -8.0, 0.5, 0.25, 2.0])[:3], [0] + words([2.25, 1.125]))

    def test_the_gap_of_the_surface_before(self):
        # Each index tells its own gap in the path: 3 + 2 5 + 4 7 + 8 11
        surfaces = [[0.0, 5.0, 2.0, 9.0], [0.0, 7.0, 4.0, 9.0], [0.0, 11.0, 8.0, 9.0]]
        self.assertEqual(ask(1.0, surfaces, STRAIGHT), [0] + words([1.0, 2.0, 0.0, 0.0, 1.0, 129.0]))
        self.assertEqual(ask(1.0, surfaces[:2], STRAIGHT)[6], bits_of(41.0))
        # And before the first surface none is taken off.
        self.assertEqual(ask(16.0, surfaces, [1.0, 2.0, 0.0, 0.0, 0.0, 1.0])[6], bits_of(126.0))
        self.assertEqual(ask(16.0, surfaces, [1.0, 2.0, 1.0, 0.0, 0.0, 1.0])[6], bits_of(110.0))

    def test_gaps_below_0(self):
        surfaces = [[0.0, -5.0, 2.0, 9.0], [0.0, -7.0, 4.0, 9.0]]
        self.assertEqual(ask(1.0, surfaces, STRAIGHT)[6], bits_of(3.0 - 10.0 - 28.0))

    def test_the_other_side(self):
        # What goes in with x and y exchanged comes out so.
        surfaces = words_of(DOUBLET)
        x, y, z, L, M, N = words(SLANTED)
        told = ray(ONE, surfaces, [x, y, z, L, M, N])
        # x x + y y and x L + y M are the same either way round.
        exchanged = ray(ONE, surfaces, [y, x, z, M, L, N])
        self.assertEqual(exchanged, [0, told[2], told[1], told[4], told[3]] + told[5:])
        flipped = ray(ONE, surfaces, [negative(x), y, z, negative(L), M, N])
        self.assertEqual(flipped, [0, negative(told[1]), told[2], negative(told[3])] + told[4:])


class Sweeps(unittest.TestCase):
    def check(self, outer, surfaces, beam):
        told = ray(outer, surfaces, beam)
        self.assertEqual(told, machine.ray(outer, surfaces, beam), (outer, surfaces, beam))
        return told[0]

    def test_lenses(self):
        answered = dict.fromkeys((0, -5, -6, -7), 0)
        for count in (1, 2, 3, 5, 9, 64):
            drawn = shares(40 + count, (4 * count + 6) * (600 // count))
            for start in range(0, len(drawn), 4 * count + 6):
                surfaces = drawn_surfaces(drawn[start + 6:start + 6 + 4 * count], 9.0 if start % 4 else 60.0)
                if count == 64:
                    surfaces = [[curve / 64, gap / 30, index, 100.0] for curve, gap, index, half in surfaces]
                x, y, z, L, M, outer = drawn[start:start + 6]
                beam = [17 * x - 8.5, 17 * y - 8.5, -5 * z, L - 0.5, M - 0.5, 1.0 - (L - 0.5) ** 2 / 2]
                answered[self.check(bits_of(1 + outer), words_of(surfaces), words(beam))] += 1
        self.assertGreater(min(answered.values()), 20)

    def test_flat_rows(self):
        drawn = shares(50, 9 * 300)
        for start in range(0, len(drawn), 9):
            first, second, third, *rest = drawn[start:start + 9]
            surfaces = [[0.0, first, 1 + second, 50.0], [-0.0, -second, 1 + third, 50.0]]
            beam = [number - 0.5 for number in rest[:5]] + [1 - rest[5] / 9]
            self.check(ONE, words_of(surfaces), words(beam))

    def test_any_doubles(self):
        answered = dict.fromkeys((0, -4, -5, -6, -7), 0)
        drawn = [word for word in mixed_words(8, 80000) if is_finite(word)]
        for start in range(0, len(drawn) - 19, 19):
            count = 1 + start % 3
            # Exponents that are mostly not too far from that of 1, and now and then are.
            near = [word & ~(0x7FF << 52) | (1023 + (word >> 52) % 41 - 20) << 52 for word in drawn[start:start + 19]]
            near[start % 19] = drawn[start]
            beam, outer, surfaces = near[:6], near[6] & ~SIGN, near[7:7 + 4 * count]
            for place in range(count):
                surfaces[4 * place + 2] &= ~SIGN
                surfaces[4 * place + 3] &= ~SIGN
            answered[self.check(outer, surfaces, beam)] += 1
        self.assertGreater(min(answered.values()), 20)

    def test_zeros_of_either_sign_and_small_whole_numbers(self):
        answered = dict.fromkeys((0, -4, -5, -6, -7), 0)
        few = words([0.0, -0.0, 1.0, -1.0, 2.0, -0.5, 0.0, -0.0])
        for drawn in mixed_words(9, 4000):
            picked = [few[drawn >> 3 * place & 7] for place in range(12)]
            above = words([1.0, 2.0, 0.5, 4.0])
            surfaces = [picked[0], picked[1], above[drawn >> 40 & 3], above[drawn >> 42 & 3]]
            surfaces += [picked[2], picked[3], above[drawn >> 44 & 3], above[drawn >> 46 & 3]]
            answered[self.check(above[drawn >> 48 & 3], surfaces, picked[4:10])] += 1
        self.assertGreater(min(answered.values()), 20)


class HowMany(unittest.TestCase):
    def test_no_surface(self):
        self.assertEqual(ray(ONE, [], words(SLANTED)), [-2])

    def test_ahead_of_a_number_that_cannot_be(self):
        for number in NOT_FINITE + NOT_ABOVE_ZERO:
            self.assertEqual(ray(number, [], words(SLANTED)), [-2], hex(number))
            self.assertEqual(ray(number, [], [number] * 6), [-2], hex(number))


class ImpossibleNumbers(unittest.TestCase):
    ROWS = [words_of(DOUBLET[:1]), words_of(DOUBLET), words_of(long_row(64))]
    BEAM = words(SLANTED)

    def test_outer(self):
        for number in NOT_FINITE + NOT_ABOVE_ZERO:
            for surfaces in self.ROWS:
                self.assertEqual(ray(number, surfaces, self.BEAM), [-3], hex(number))

    def test_each_number_of_the_surfaces(self):
        for surfaces in self.ROWS:
            for place in range(len(surfaces)):
                for number in NOT_FINITE + (NOT_ABOVE_ZERO if place % 4 >= 2 else []):
                    told = ray(ONE, with_number(surfaces, place, number), self.BEAM)
                    self.assertEqual(told, [-3], (place, hex(number)))

    def test_each_number_of_the_beam(self):
        for surfaces in self.ROWS:
            for place in range(6):
                for number in NOT_FINITE:
                    told = ray(ONE, surfaces, with_number(self.BEAM, place, number))
                    self.assertEqual(told, [-3], (place, hex(number)))

    def test_numbers_of_0_and_below_are_taken(self):
        surfaces = words_of(DOUBLET)
        for number in NOT_ABOVE_ZERO:
            for place in range(6):
                beam = with_number(self.BEAM, place, number)
                self.assertEqual(ray(ONE, surfaces, beam), machine.ray(ONE, surfaces, beam))
                self.assertNotEqual(ray(ONE, surfaces, beam), [-3])
            for place in (0, 1, 4, 5, 8, 9):
                changed = with_number(surfaces, place, number)
                self.assertEqual(ray(ONE, changed, self.BEAM), machine.ray(ONE, changed, self.BEAM))
                self.assertNotEqual(ray(ONE, changed, self.BEAM), [-3])

    def test_ahead_of_every_failing(self):
        missing = words([9.0, 9.0, 0.0, 0.0, 0.0, 1.0])
        stopped = words([1.0, 1.0, 0.0, 0.0, 0.0, 1.0])
        without_way = words([0.0] * 6)
        first = words([1.0, 0.0, 1.0, 1.0])
        for beam in (missing, stopped, without_way):
            self.assertEqual(len(ray(ONE, first, beam)), 2)
            for number in NOT_FINITE:
                # Also where the wrong number stands at a surface to which no light comes.
                self.assertEqual(ray(ONE, first + with_number(first, 1, number), beam), [-3])
            self.assertEqual(ray(ONE, first + with_number(first, 2, SIGN), beam), [-3])
            self.assertEqual(ray(SIGN, first, beam), [-3])


class Missed(unittest.TestCase):
    # A ball of which the surface is 1 from its middle, and light that comes along the axis.
    BALL = [1.0, 1.0, 1.0, 9.0]

    def beam(self, x):
        return [x, 0, 0, 0, 0, ONE]

    def test_at_the_first_surface(self):
        self.assertEqual(ask(1.0, [self.BALL], [2.0, 0.0, 0.0, 0.0, 0.0, 1.0]), [-5, 0])
        self.assertEqual(ask(1.0, [self.BALL], [0.0, -2.0, -1.0, 0.0, 0.0, 1.0]), [-5, 0])
        self.assertEqual(ask(1.0, [[-1.0, 1.0, 1.0, 9.0]], [2.0, 0.0, 0.0, 0.0, 0.0, 1.0]), [-5, 0])

    def test_at_a_later_surface(self):
        for count in (1, 2, 63):
            self.assertEqual(ask(1.0, [PANE] * count + [self.BALL], [2.0, 0.0, 0.0, 0.0, 0.0, 1.0]), [-5, count])

    def test_just_0_does_not_miss(self):
        for count in (0, 1, 63):
            surfaces = words_of([[0.0, 0.0, 1.0, 9.0]] * count + [self.BALL])
            self.assertEqual(ray(ONE, surfaces, self.beam(ONE))[0], 0)
            self.assertEqual(ray(ONE, surfaces, self.beam(ONE - 1))[0], 0)
            self.assertEqual(ray(ONE, surfaces, self.beam(ONE + 1)), [-5, count])

    def test_rounded_to_0_does_not_miss(self):
        # G G and c F are both below the least double.
        self.assertEqual(ask(1.0, [[2.0 ** -600, 0.0, 1.0, 9.0]], [1.0, 0.0, 0.0, 0.0, 0.0, 2.0 ** -600])[0], 0)

    def test_ahead_of_being_stopped_or_thrown_back(self):
        narrow = [1.0, 1.0, 2.0 ** -1000, 0.5]
        self.assertEqual(ask(1.0, [narrow], [2.0, 0.0, 0.0, 0.0, 0.0, 1.0]), [-5, 0])
        self.assertEqual(ask(1.0, [[1.0, 1.0, 1.0, 2.0 ** 600]], [2.0, 0.0, 0.0, 0.0, 0.0, 1.0]), [-5, 0])

    def test_behind_a_step_without_a_finite_result(self):
        # D would be below 0, but F isn't finite.
        self.assertEqual(ask(1.0, [self.BALL], [2.0 ** 512, 0.0, 0.0, 0.0, 0.0, 1.0]), [-4, 0])


class Stopped(unittest.TestCase):
    BEAM = [3.0, -4.0, 0.0, 0.0, 0.0, 1.0]

    def test_at_the_first_surface(self):
        self.assertEqual(ask(1.0, [[0.0, 1.0, 1.0, 4.5]], self.BEAM), [-7, 0])
        self.assertEqual(ask(1.0, [[-0.01, 1.0, 1.5, 4.5]], self.BEAM), [-7, 0])

    def test_at_a_later_surface(self):
        for count in (1, 2, 63):
            self.assertEqual(ask(1.0, [PANE] * count + [[0.0, 1.0, 1.0, 4.5]], self.BEAM), [-7, count])

    def test_just_as_far_out_is_not_stopped(self):
        for count in (0, 1, 63):
            for half, answer in ((bits_of(5.0), 0), (bits_of(5.0) + 1, 0), (bits_of(5.0) - 1, -7)):
                surfaces = words_of([PANE] * count) + [0, ONE, ONE, half]
                told = ray(ONE, surfaces, words(self.BEAM))
                self.assertEqual(told[:1 + (answer < 0)], [answer] + [count] * (answer < 0))

    def test_squares_are_compared_as_they_are_rounded(self):
        # The square of 2^-538 is nothing, that of 2^-537 is the least double.
        self.assertEqual(ray(ONE, [0, ONE, ONE, power(-538)], [power(-538), 0, 0, 0, 0, ONE])[0], 0)
        self.assertEqual(ray(ONE, [0, ONE, ONE, LEAST], [power(-538), 0, 0, 0, 0, ONE])[0], 0)
        self.assertEqual(ray(ONE, [0, ONE, ONE, LEAST], [power(-537), 0, 0, 0, 0, ONE]), [-7, 0])

    def test_at_the_place_on_the_surface(self):
        # It comes in at 9, and meets the surface at 3.
        self.assertEqual(ask(1.0, [[0.0, 1.0, 1.0, 3.0]], [9.0, 0.0, -2.0, -3.0, 0.0, 1.0])[0], 0)
        self.assertEqual(ask(1.0, [[0.0, 1.0, 1.0, 2.5]], [9.0, 0.0, -2.0, -3.0, 0.0, 1.0]), [-7, 0])
        # It comes in within 1, and meets the surface outside.
        self.assertEqual(ask(1.0, [[0.0, 1.0, 1.0, 1.0]], [0.0, 0.5, -2.0, 0.0, 3.0, 1.0]), [-7, 0])

    def test_ahead_of_being_thrown_back(self):
        for index in (0.5, 2.0 ** -1000):
            told = ask(1.0 if index == 0.5 else 2.0 ** 1000, [[0.0, 1.0, index, 1.0]], [3.0, 0.0, 0.0, 0.9, 0.0, 0.1])
            self.assertEqual(told, [-7, 0])

    def test_behind_a_step_without_a_finite_result(self):
        # The square of half, and that of a place far out.
        self.assertEqual(ask(1.0, [[0.0, 1.0, 1.0, 2.0 ** 512]], [1.0, 0.0, 0.0, 0.0, 0.0, 1.0]), [-4, 0])
        self.assertEqual(ask(1.0, [[0.0, 1.0, 1.0, 1.0]], [2.0 ** 512, 0.0, 0.0, 0.0, 0.0, 0.5]), [-4, 0])


class ThrownBack(unittest.TestCase):
    # Light that comes slanted out of an index of 2 into one of 1.
    SLANT = [0.0, 0.0, 0.0, 0.8, 0.0, 0.6]
    OUT = [0.0, 1.0, 1.0, 9.0]

    def test_at_the_first_surface(self):
        self.assertEqual(ask(2.0, [self.OUT], self.SLANT), [-6, 0])
        self.assertEqual(ask(2.0, [[0.01, 1.0, 1.0, 9.0]], self.SLANT), [-6, 0])

    def test_at_a_later_surface(self):
        for count in (1, 2, 63):
            panes = [[0.0, 0.01, 2.0, 9.0]] * count
            self.assertEqual(ask(2.0, panes + [self.OUT], self.SLANT), [-6, count])

    def test_just_0_is_not_thrown_back(self):
        # D is 0, so that R is 1 - u u.
        ball = [ONE, ONE, ONE, bits_of(9.0)]
        beam = [ONE, 0, 0, 0, 0, ONE]
        self.assertEqual(ray(ONE, ball, beam)[0], 0)
        self.assertEqual(ray(ONE - 1, ball, beam)[0], 0)
        self.assertEqual(ray(ONE + 1, ball, beam), [-6, 0])

    def test_ahead_of_the_path(self):
        # The path is beyond the greatest double, too.
        far = [0.0, 0.0, -2.0 ** 100, 0.8, 0.0, 0.6]
        self.assertEqual(ask(2.0 ** 1000, [[0.0, 1.0, 2.0 ** 999, 2.0 ** 511]], far), [-6, 0])
        self.assertEqual(ask(2.0 ** 1000, [[0.0, 1.0, 2.0 ** 1000, 2.0 ** 511]], far), [-4, 0])

    def test_behind_a_step_without_a_finite_result(self):
        self.assertEqual(ask(2.0 ** 512, [self.OUT], self.SLANT), [-4, 0])
        self.assertEqual(ask(2.0 ** 511, [self.OUT], self.SLANT), [-6, 0])
        self.assertEqual(ask(2.0, [[0.0, 1.0, 1.0, 2.0 ** 512]], self.SLANT), [-4, 0])


class NoFiniteResult(unittest.TestCase):
    """Each step that can go beyond the greatest double, at the first surface and at a later one."""

    def check(self, outer, surface, beam, finite_beam=None):
        self.assertEqual(ask(outer, [surface], beam), [-4, 0])
        self.assertEqual(machine.ray(bits_of(outer), words_of([surface]), words(beam)), [-4, 0])
        if finite_beam is not None:
            self.assertNotEqual(ask(outer, [surface], finite_beam)[0], -4)

    def test_squares_of_the_place(self):
        wide = [0.0, 0.0, 1.0, 2.0 ** 511]
        self.check(1.0, wide, [2.0 ** 512, 0.0, 0.0, 0.0, 0.0, 1.0], [2.0 ** 511, 0.0, 0.0, 0.0, 0.0, 1.0])
        self.check(1.0, wide, [0.0, 2.0 ** 512, 0.0, 0.0, 0.0, 1.0], [0.0, 2.0 ** 511, 0.0, 0.0, 0.0, 1.0])
        self.check(1.0, wide, [0.0, 0.0, 2.0 ** 512, 0.0, 0.0, 1.0], [0.0, 0.0, 2.0 ** 511, 0.0, 0.0, 1.0])
        great = 1.99 * 2.0 ** 511
        self.check(1.0, wide, [great, great, 0.0, 0.0, 0.0, 1.0])
        self.check(1.0, wide, [great, 0.0, great, 0.0, 0.0, 1.0])

    def test_products_with_the_curve(self):
        self.check(1.0, [2.0 ** 1000, 0.0, 1.0, 1.0], [2.0 ** 12, 0.0, 0.0, 0.0, 0.0, 1.0])
        self.check(1.0, [2.0 ** 1000, 0.0, 1.0, 1.0], [0.0, 0.0, 2.0 ** -100, 0.0, 0.0, 2.0 ** 200])

    def test_slant(self):
        self.check(1.0, PANE, [2.0 ** 500, 0.0, 0.0, 2.0 ** 524, 0.0, 1.0])
        self.check(1.0, PANE, [0.0, 2.0 ** 500, 0.0, 0.0, 2.0 ** 524, 1.0])
        self.check(1.0, PANE, [0.0, 0.0, 2.0 ** 500, 0.0, 0.0, 2.0 ** 524])
        self.check(1.0, PANE, [0.0, 0.0, 0.0, 0.0, 0.0, 2.0 ** 512])

    def test_quotient_by_0(self):
        # G is -1 and r is 1.
        self.check(1.0, PANE, [0.0, 0.0, -1.0, 0.0, 0.0, -1.0])
        self.check(1.0, PANE, [0.0, 0.0, 0.0, 0.0, 0.0, -1.0])
        # G and r are 0.
        self.check(1.0, PANE, [0.0, 0.0, -1.0, 1.0, 0.0, 0.0])
        self.check(1.0, PANE, [0.0, 0.0, -1.0, 1.0, 0.0, -0.0])

    def test_quotient_by_0_at_a_later_surface(self):
        # With a z of 2: F = 4 - 4, G = 1 - 2, D = 1.
        back = [[0.0, -2.0, 1.0, 9.0], [1.0, 0.0, 1.0, 9.0]]
        self.assertEqual(ask(1.0, back, [0.0, 0.0, 0.0, 0.0, 0.0, 1.0]), [-4, 1])
        for count in (1, 62):
            self.assertEqual(ask(1.0, [PANE] * count + back, [0.0, 0.0, 0.0, 0.0, 0.0, 1.0]), [-4, 1 + count])

    def test_quotient_beyond_the_greatest(self):
        self.check(1.0, PANE, [0.0, 0.0, -2.0 ** 511, 0.0, 0.0, 2.0 ** -520])

    def test_places(self):
        self.check(1.0, [0.0, 0.0, 1.0, 1.0], [0.0, 0.0, -2.0 ** 500, 2.0 ** 600, 0.0, 2.0 ** -10])
        self.check(1.0, [0.0, 0.0, 1.0, 1.0], [0.0, 0.0, -2.0 ** 500, 0.0, 2.0 ** 600, 2.0 ** -10])
        self.check(1.0, [0.0, 0.0, 1.0, 1.0], [0.0, 0.0, -2.0 ** 500, 2.0 ** 20, 0.0, 1.0])

    def test_half(self):
        self.check(1.0, [0.0, 0.0, 1.0, 2.0 ** 512], [0.0, 0.0, 0.0, 0.0, 0.0, 1.0])
        told = ray(ONE, [0, 0, ONE, power(512) - 1], words([0.0, 0.0, 0.0, 0.0, 0.0, 1.0]))
        self.assertEqual(told[0], 0)

    def test_ratio_of_the_indexes(self):
        axis = [0.0, 0.0, 0.0, 0.0, 0.0, 1.0]
        self.check(2.0 ** 600, [0.0, 0.0, 2.0 ** -600, 1.0], axis)
        self.check(2.0 ** 256, [0.0, 0.0, 2.0 ** -256, 1.0], axis)
        # Here u u is finite. But 1 is nothing beside u, so that N is 0 behind the surface.
        self.assertEqual(ask(2.0 ** 255, [[0.0, 0.0, 2.0 ** -256, 1.0]], axis), [-4, 1])
        self.assertEqual(ask(2.0 ** 20, [[0.0, 0.0, 2.0 ** -20, 1.0]], axis)[0], 0)

    def test_way_behind(self):
        # h = g c is finite, and by x it isn't.
        self.check(2.0 ** 400, [2.0 ** 300, 0.0, 1.0, 1.0], [0.0, 0.0, 0.0, 2.0 ** 700, 0.0, 1.0])
        self.check(2.0 ** 400, [0.0, 0.0, 1.0, 1.0], [0.0, 0.0, 0.0, 2.0 ** 1000, 0.0, 1.0])
        self.check(2.0 ** 400, [0.0, 0.0, 1.0, 1.0], [0.0, 0.0, 0.0, 0.0, -2.0 ** 1000, 1.0])
        self.check(2.0 ** 500, [2.0 ** 600, 0.0, 1.0, 1.0], [0.0, 0.0, 0.0, 0.0, 0.0, 1.0])

    def test_path(self):
        self.check(2.0 ** 1000, [0.0, 0.0, 2.0 ** 1000, 1.0], [0.0, 0.0, -2.0 ** 24, 0.0, 0.0, 1.0],
                   [0.0, 0.0, -2.0 ** 23, 0.0, 0.0, 1.0])

    def test_sum_of_the_path_at_a_later_surface(self):
        surfaces = [[0.0, 2.0 ** 23, 2.0 ** 1000, 1.0]] * 3
        axis = [0.0, 0.0, -2.0 ** 23, 0.0, 0.0, 1.0]
        self.assertEqual(ask(2.0 ** 1000, surfaces, axis), [-4, 1])
        axis[2] = 0.0
        self.assertEqual(ask(2.0 ** 1000, surfaces, axis), [-4, 2])
        self.assertEqual(ask(2.0 ** 1000, surfaces[:2], axis), [-4, 2])

    def test_gap_before_a_later_surface(self):
        # The square of z is too large.
        far = [[0.0, 2.0 ** 512, 1.0, 1.0], PANE]
        self.assertEqual(ask(1.0, far, [0.0, 0.0, 0.0, 0.0, 0.0, 1.0]), [-4, 1])
        self.assertEqual(ask(1.0, [PANE] * 3 + far, [0.0, 0.0, 0.0, 0.0, 0.0, 1.0]), [-4, 4])
        # z is 2^1022 behind the first surface, and the difference itself is too large.
        surfaces = [ONE, negative(GREATEST), ONE, power(511)] + words_of([PANE])
        self.assertEqual(ray(ONE, surfaces, [power(511), 0, 0, 0, 0, power(511)]), [-4, 1])


class NoFiniteEnd(unittest.TestCase):
    def test_way_without_z(self):
        # D is 2^-60, 1 - D is 1, so R is 0, and N is 0 behind the surface.
        grazing = [0.0, 0.0, 0.0, 1.0, 0.0, 2.0 ** -30]
        for gap in (0.0, 1.0, -1.0):
            self.assertEqual(ask(1.0, [[0.0, gap, 1.0, 1.0]], grazing), [-4, 1])

    def test_with_each_number_of_surfaces(self):
        for count in (1, 2, 3, 64):
            surfaces = [[0.0, 1.0, 1.0, 9.0]] * (count - 1) + [[0.0, 2.0 ** 1023, 2.0, 9.0]]
            self.assertEqual(ask(1.0, surfaces, [0.0, 0.0, 0.0, 0.0, 0.0, 1.0]), [-4, count])
            surfaces[-1][1] = 2.0 ** 1022
            self.assertEqual(ask(1.0, surfaces, [0.0, 0.0, 0.0, 0.0, 0.0, 1.0])[0], 0)

    def test_difference(self):
        # F = 2^1022, G = 2^511, D = 0, s = 2^511: z is 2^1022 behind the surface.
        beam = [power(511), 0, 0, 0, 0, power(511)]
        for gap, answer in ((negative(GREATEST), [-4, 1]), (negative(power(1023)), [0]), (power(1023), [0]), (0, [0])):
            self.assertEqual(ray(ONE, [ONE, gap, ONE, power(511)], beam)[:len(answer)], answer)

    def test_quotient(self):
        # N is 2^-26 behind the surface, too.
        beam = [0.0, 0.0, 0.0, 0.0, 0.0, 2.0 ** -26]
        self.assertEqual(ask(1.0, [[0.0, 2.0 ** 998, 1.0, 1.0]], beam), [-4, 1])
        told = ask(1.0, [[0.0, 2.0 ** 997, 1.0, 1.0]], beam)
        self.assertEqual(told, [0] + words([0.0, 0.0, 0.0, 0.0, 2.0 ** -26, 2.0 ** 1023]))

    def test_places(self):
        for place in (3, 4):
            beam = [0.0, 0.0, 0.0, 0.0, 0.0, 1.0]
            beam[place] = 4.0
            self.assertEqual(ask(1.0, [[0.0, 2.0 ** 1022, 1.0, 1.0]], beam), [-4, 1])
            self.assertEqual(ask(1.0, [[0.0, 2.0 ** 1020, 1.0, 1.0]], beam)[0], 0)

    def test_path(self):
        axis = [0.0, 0.0, 0.0, 0.0, 0.0, 1.0]
        self.assertEqual(ask(1.0, [[0.0, 2.0 ** 1000, 2.0 ** 24, 1.0]], axis), [-4, 1])
        self.assertEqual(ask(1.0, [[0.0, 2.0 ** 1000, 2.0 ** 23, 1.0]], axis)[0], 0)

    def test_sum_of_the_path(self):
        surfaces = [[0.0, 2.0 ** 23, 2.0 ** 1000, 1.0]]
        self.assertEqual(ask(2.0 ** 1000, surfaces, [0.0, 0.0, -2.0 ** 23, 0.0, 0.0, 1.0]), [-4, 1])
        self.assertEqual(ask(2.0 ** 1000, surfaces, [0.0, 0.0, -2.0 ** 22, 0.0, 0.0, 1.0])[0], 0)


class Zeros(unittest.TestCase):
    def test_places_and_ways(self):
        # x + s L, with s above 0 or below it, and both zeros of either sign.
        for x in (0.0, -0.0):
            for L in (0.0, -0.0):
                for gap in (1.0, -1.0, 0.0, -0.0):
                    surfaces = [[0.0, gap, 1.0, 1.0]]
                    beam = [x, L, -1.0, L, x, 1.0]
                    told = ask(1.0, surfaces, beam)
                    self.assertEqual(told, machine.ray(ONE, words_of(surfaces), words(beam)))
        # Behind the surface the way is 0 0 1, and s is -1.
        told = ask(1.0, [[0.0, -1.0, 1.0, 1.0]], [-0.0, 0.0, -1.0, -0.0, 0.0, 1.0])
        self.assertEqual(told, [0, SIGN, 0, 0, 0, ONE, 0])

    def test_the_end_turns_the_sign_of_z(self):
        # z is 0 at the end: s = -0 / 1, and x = -0 + (-0) 1.
        beam = [-0.0, -0.0, 0.0, 1.0, -1.0, 1.0]
        surfaces = [[0.0, 0.0, 1.0, 1.0]]
        self.assertEqual(ask(1.0, surfaces, beam), machine.ray(ONE, words_of(surfaces), words(beam)))

    def test_small_ones(self):
        surfaces = [0, ONE, ONE, ONE]
        self.assertEqual(
            ray(ONE, surfaces, [LEAST, negative(LEAST), 0, 0, 0, ONE]), [0, LEAST, negative(LEAST), 0, 0, ONE, ONE])


class ByItself(EachCallByItself, unittest.TestCase):
    CALL = staticmethod(ray)
    NAMES = ["outer", "surfaces", "beam"]
    LENGTHS = {0: 7, -2: 1, -3: 1}
    OTHER_LENGTH = 2
    CALLS = [
        ((ONE, words_of(DOUBLET), words(SLANTED)), 0),
        ((ONE, words_of(long_row(64)), words(SLANTED)), 0),
        ((ONE, [], words(SLANTED)), -2),
        ((SIGN, words_of(DOUBLET), words(SLANTED)), -3),
        ((ONE, words_of(DOUBLET), words([0.0] * 6)), -4),
        ((ONE, words_of(DOUBLET), words([90.0, 0.0, 0.0, 0.0, 0.0, 1.0])), -5),
        ((bits_of(2.0), words_of([[0.0, 1.0, 1.0, 9.0]]), words([0.0, 0.0, 0.0, 0.8, 0.0, 0.6])), -6),
        ((ONE, words_of(DOUBLET), words([14.0, 0.0, 0.0, 0.0, 0.0, 1.0])), -7),
    ]


if __name__ == "__main__":
    unittest.main()
