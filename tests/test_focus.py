"""Promise 5: focus."""

import unittest

from lensbits.lenses import focus, spot
from tests import machine
from tests.bits import (
    GREATEST, LEAST, NOT_ABOVE_ZERO, NOT_FINITE, ONE, SIGN,
    bits_of, double_of, mixed_words, negative, power,
)
from tests.calls import EachCallByItself
from tests.samples import (
    DOUBLET, FLAT_AND_CURVED, PANE, drawn_surfaces, long_row, shares, with_number, words, words_of,
)

AXIS = [0.0, 0.0, 1.0]
SLANTED = [0.02, 0.03, 0.99935]

NOT_1_TO_64 = [0, -1, 65, 66, -64, 1000, -2147483648, 2147483647]


def ask(outer, size, m, steps, surfaces, way):
    return focus(bits_of(outer), bits_of(size), m, steps, words_of(surfaces), words(way))


def number(told):
    return double_of(told[1])


def with_last_gap(surfaces, gap):
    curve, _, index, half = surfaces[-1]
    return surfaces[:-1] + [[curve, gap, index, half]]


def gaps(gap):
    """The first c and d."""
    b = 2 * gap
    return 0.0 + (b - 0.0) / 3, b - (b - 0.0) / 3


def with_both(outer, size, m, surfaces, way):
    """What spot answers with the first c, and with the first d."""
    return [
        spot(bits_of(outer), bits_of(size), m, words_of(with_last_gap(surfaces, gap)), words(way))
        for gap in gaps(surfaces[-1][1])]


class Ordinary(unittest.TestCase):
    def test_one_step(self):
        self.assertEqual(ask(1.0, 8.0, 1, 1, DOUBLET[:1], SLANTED), [0, bits_of(4.0)])

    def test_two_steps(self):
        self.assertEqual(ask(1.0, 8.0, 2, 2, DOUBLET[:2], SLANTED), [0, 0x400F1C71C71C71C7])

    def test_five_steps(self):
        self.assertEqual(ask(1.0, 8.0, 4, 5, DOUBLET, SLANTED), [0, 0x4058598C1D7F7926])

    def test_64_steps(self):
        self.assertEqual(ask(1.0, 8.0, 3, 64, DOUBLET, SLANTED), [0, 0x405833FD44BE97D6])
        self.assertEqual(ask(1.0, 8.0, 3, 64, FLAT_AND_CURVED, SLANTED), [0, 0x4034C06088EAC7EC])

    def test_64_surfaces(self):
        self.assertEqual(ask(1.0, 8.0, 2, 2, long_row(64), SLANTED), [0, 0x3FE3E93E93E93E94])
        self.assertEqual(ask(1.0, 8.0, 3, 64, long_row(64), SLANTED), [0, 0x3FE9999999994DFE])

    def test_larger_m(self):
        asked = (ONE, bits_of(8.0), 16, 40, words_of(DOUBLET), words(SLANTED))
        self.assertEqual(focus(*asked), machine.focus(*asked))

    def test_m_64(self):
        asked = (ONE, bits_of(8.0), 64, 1, words_of([[0.05, 90.0, 1.5, 12.5]]), words(AXIS))
        self.assertEqual(focus(*asked), machine.focus(*asked))

    def test_it_is_the_sharpest_gap(self):
        found = number(ask(1.0, 8.0, 4, 64, DOUBLET, AXIS))
        spreads = []
        for gap in (found - 0.01, found, found + 0.01):
            spreads.append(spot(ONE, bits_of(8.0), 4, words_of(with_last_gap(DOUBLET, gap)), words(AXIS))[3])
        self.assertEqual(min(spreads), spreads[1])
        self.assertAlmostEqual(found, 97.0, delta=1.0)

    def test_the_gap_that_is_handed_in_is_only_where_the_search_begins(self):
        for gap in (60.0, 80.0, 120.0, 300.0):
            found = number(ask(1.0, 8.0, 4, 64, with_last_gap(DOUBLET, gap), AXIS))
            self.assertAlmostEqual(found, number(ask(1.0, 8.0, 4, 64, DOUBLET, AXIS)), delta=0.001)

    def test_it_does_not_go_beyond_twice_the_gap(self):
        found = number(ask(1.0, 8.0, 4, 64, with_last_gap(DOUBLET, 20.0), AXIS))
        self.assertAlmostEqual(found, 40.0, delta=0.001)


class Steps(unittest.TestCase):
    def test_b_is_d_where_the_third_numbers_are_equal(self):
        # One ray has no spread, whatever the gap. b = 3, d = 3 - 1; then 2 - 2 / 3.
        self.assertEqual(number(ask(1.0, 1.0, 1, 1, [[0.0, 1.5, 1.0, 9.0]], AXIS)), 1.0)
        self.assertEqual(number(ask(1.0, 1.0, 1, 2, [[0.0, 1.5, 1.0, 9.0]], AXIS)), (2.0 - 2.0 / 3) / 2)
        # And parallel rays have the same everywhere.
        self.assertEqual(number(ask(1.0, 1.0, 2, 1, [[0.0, 1.5, 1.0, 9.0]], AXIS)), 1.0)

    def test_b_is_d_where_c_is_sharper(self):
        # Rays that go apart.
        self.assertEqual(number(ask(1.0, 1.0, 2, 1, [[-0.1, 1.5, 1.5, 9.0]], AXIS)), 1.0)

    def test_a_is_c_where_d_is_sharper(self):
        # Rays that come together far behind: (1 + 3) / 2; then c = 1 + 2 / 3.
        self.assertEqual(number(ask(1.0, 1.0, 2, 1, [[0.01, 1.5, 1.5, 9.0]], AXIS)), 2.0)
        self.assertEqual(number(ask(1.0, 1.0, 2, 2, [[0.01, 1.5, 1.5, 9.0]], AXIS)), ((1.0 + 2.0 / 3) + 3.0) / 2)

    def test_all_equal_for_64_steps(self):
        b = 2 * 0.7
        for _ in range(64):
            b = b - (b - 0.0) / 3
        self.assertEqual(number(ask(1.0, 1.0, 1, 64, [[0.0, 0.7, 1.0, 9.0]], AXIS)), (0.0 + b) / 2)

    def test_always_d_for_64_steps(self):
        a, b = 0.0, 2 * 0.7
        for _ in range(64):
            a = a + (b - a) / 3
        told = ask(1.0, 1.0, 2, 64, [[0.01, 0.7, 1.5, 9.0]], AXIS)
        # Near the end c and d may be equally sharp, so it isn't held to the last bit.
        self.assertAlmostEqual(number(told), (a + b) / 2, places=6)

    def test_other_orders_would_show(self):
        seen = {}
        for gap in shares(80, 200):
            b = 2 * gap
            told = number(ask(1.0, 1.0, 1, 1, [[0.0, gap, 1.0, 9.0]], AXIS))
            self.assertEqual(told, (b - b / 3) / 2)
            others = {"two thirds": b * 2 / 3, "twice a third": 2 * (b / 3), "by one and a half": b / 1.5}
            for name, other in others.items():
                other = other / 2
                seen[name] = seen.get(name, 0) + (told != other)
        self.assertGreater(min(seen.values()), 5)

    def test_third_is_a_quotient_and_is_rounded(self):
        # The second step begins from a that is not 0, so that b - a is rounded, too.
        for gap in shares(81, 40):
            told = number(ask(1.0, 1.0, 2, 3, [[0.001, gap, 1.5, 9.0]], AXIS))
            a, b = 0.0, 2 * gap
            for _ in range(3):
                a = a + (b - a) / 3
            self.assertEqual(told, (a + b) / 2)


class Sweeps(unittest.TestCase):
    def check(self, *asked):
        told = focus(*asked)
        self.assertEqual(told, machine.focus(*asked), asked)
        return told[0]

    def test_lenses(self):
        answered = {}
        for count in (1, 2, 4):
            drawn = shares(90 + count, (4 * count + 5) * 40)
            for place, start in enumerate(range(0, len(drawn), 4 * count + 5)):
                size, L, M, outer, gap = drawn[start:start + 5]
                surfaces = drawn_surfaces(drawn[start + 5:start + 5 + 4 * count], 20.0)
                surfaces = with_last_gap(surfaces, 60 * gap if place % 3 else -60 * gap)
                way = [L / 3 - 0.1, M / 3 - 0.1, 1 - L / 30]
                told = self.check(
                    bits_of(1 + outer), bits_of(12 * size), 1 + place % 4, 1 + place % 9,
                    words_of(surfaces), words(way))
                answered[told] = answered.get(told, 0) + 1
        self.assertGreater(answered[0], 80)

    def test_any_doubles(self):
        answered = dict.fromkeys((0, -4, -5), 0)
        drawn = mixed_words(11, 13000)
        for start in range(0, len(drawn), 13):
            near = [word & ~(0x7FF << 52) | (1023 + (word >> 52) % 41 - 20) << 52 for word in drawn[start:start + 13]]
            outer, size, *way = near[:5]
            surfaces = near[5:9 + 4 * (start % 2)]
            for place in range(2, len(surfaces), 4):
                surfaces[place] &= ~SIGN
                surfaces[place + 1] = power(500)
            if start % 4 == 0:
                surfaces[-3] = near[12] & SIGN | power(500 + start % 524)
            answered[self.check(outer & ~SIGN, size, 1 + start % 3, 1 + start % 5, surfaces, way)] += 1
        self.assertGreater(min(answered.values()), 20)


class LastGaps(unittest.TestCase):
    def test_0_of_either_sign(self):
        # 2 (-0) is -0, and c = 0 + (-0 - 0) / 3 is 0, as is d = -0 - (-0).
        for gap in (0.0, -0.0):
            for m in (1, 2, 3):
                for steps in (1, 2, 64):
                    for surfaces in ([[0.0, gap, 1.0, 9.0]], with_last_gap(DOUBLET, gap)):
                        self.assertEqual(ask(1.0, 5.0, m, steps, surfaces, SLANTED), [0, 0])

    def test_below_0(self):
        self.assertEqual(number(ask(1.0, 1.0, 1, 1, [[0.0, -1.5, 1.0, 9.0]], AXIS)), -1.0)
        # Rays that go apart were together before the lens, at -20: the farther the sharper.
        self.assertEqual(number(ask(1.0, 1.0, 2, 1, [[-0.1, -1.5, 1.5, 9.0]], AXIS)), -2.0)
        # And rays that come together were farther apart there.
        self.assertEqual(number(ask(1.0, 1.0, 2, 1, [[0.1, -1.5, 1.5, 9.0]], AXIS)), -1.0)

    def test_sharpest_below_0(self):
        diverging = [[-0.1, -25.0, 1.5, 9.0]]
        asked = (ONE, bits_of(0.5), 3, 64, words_of(diverging), words(AXIS))
        self.assertEqual(focus(*asked), machine.focus(*asked))
        self.assertAlmostEqual(number(focus(*asked)), -30.0, delta=0.5)

    def test_least(self):
        # b is twice the least double: a third of it is 1, so that c and d are 1 of them; half of 1 is 0 (even).
        for sign in (0, SIGN):
            self.assertEqual(focus(ONE, ONE, 1, 1, [0, sign | LEAST, ONE, ONE], words(AXIS)), [0, sign])

    def test_the_gaps_ahead_of_the_last_stay(self):
        surfaces = [[0.05, 7.0, 1.5, 9.0], [-0.05, 30.0, 1.0, 9.0]]
        asked = (ONE, bits_of(2.0), 3, 30, words_of(surfaces), words(AXIS))
        self.assertEqual(focus(*asked), machine.focus(*asked))
        other = (ONE, bits_of(2.0), 3, 30, words_of([[0.05, 3.0, 1.5, 9.0], surfaces[1]]), words(AXIS))
        self.assertNotEqual(focus(*asked), focus(*other))


class HowMany(unittest.TestCase):
    def test_no_surface(self):
        self.assertEqual(ask(1.0, 1.0, 1, 1, [], AXIS), [-2])

    def test_m_and_steps(self):
        for count in NOT_1_TO_64:
            self.assertEqual(ask(1.0, 1.0, count, 1, [PANE], AXIS), [-2], count)
            self.assertEqual(ask(1.0, 1.0, 1, count, [PANE], AXIS), [-2], count)
            self.assertEqual(ask(1.0, 1.0, count, count, [PANE], AXIS), [-2], count)
            self.assertEqual(ask(1.0, 1.0, count, 1, [], AXIS), [-2], count)
            self.assertEqual(ask(1.0, 1.0, 1, count, [], AXIS), [-2], count)
        self.assertEqual(ask(1.0, 1.0, 1, 64, [PANE], AXIS)[0], 0)
        self.assertEqual(ask(1.0, 1.0, 64, 1, [PANE], AXIS)[0], 0)

    def test_ahead_of_a_number_that_cannot_be(self):
        for word in NOT_FINITE + NOT_ABOVE_ZERO:
            self.assertEqual(focus(word, ONE, 1, 1, [], words(AXIS)), [-2])
            self.assertEqual(focus(word, word, 1, 1, [], [word] * 3), [-2])
            for m, steps in ((0, 1), (1, 0), (65, 64), (64, 65), (-2147483648, 2147483647)):
                self.assertEqual(focus(word, ONE, m, steps, words_of([PANE]), words(AXIS)), [-2])
                self.assertEqual(focus(ONE, word, m, steps, words_of([PANE]), words(AXIS)), [-2])
                self.assertEqual(focus(ONE, ONE, m, steps, words_of([PANE]), [word] * 3), [-2])
                self.assertEqual(focus(ONE, ONE, m, steps, [word] * 4, words(AXIS)), [-2])


class ImpossibleNumbers(unittest.TestCase):
    ROWS = [words_of(DOUBLET[:1]), words_of(DOUBLET), words_of(long_row(64))]
    WAY = words(SLANTED)

    def test_outer(self):
        for word in NOT_FINITE + NOT_ABOVE_ZERO:
            for surfaces in self.ROWS:
                self.assertEqual(focus(word, ONE, 2, 2, surfaces, self.WAY), [-3], hex(word))

    def test_size(self):
        for word in NOT_FINITE:
            for surfaces in self.ROWS:
                self.assertEqual(focus(ONE, word, 2, 2, surfaces, self.WAY), [-3], hex(word))

    def test_each_number_of_the_way(self):
        for word in NOT_FINITE:
            for place in range(3):
                for surfaces in self.ROWS:
                    told = focus(ONE, ONE, 2, 2, surfaces, with_number(self.WAY, place, word))
                    self.assertEqual(told, [-3], (place, hex(word)))

    def test_each_number_of_the_surfaces(self):
        for surfaces in self.ROWS:
            for place in range(len(surfaces)):
                for word in NOT_FINITE + (NOT_ABOVE_ZERO if place % 4 >= 2 else []):
                    told = focus(ONE, ONE, 2, 2, with_number(surfaces, place, word), self.WAY)
                    self.assertEqual(told, [-3], (place, hex(word)))

    def test_ahead_of_no_ray_and_of_no_finite_result(self):
        none = words([0.0, 0.0, 0.0])
        too_far = [0, GREATEST, ONE, ONE]
        self.assertEqual(focus(ONE, ONE, 2, 2, words_of([PANE]), none), [-5])
        self.assertEqual(focus(ONE, ONE, 2, 2, too_far, words(AXIS)), [-4])
        for word in NOT_FINITE:
            self.assertEqual(focus(ONE, word, 2, 2, words_of([PANE]), none), [-3])
            self.assertEqual(focus(word, ONE, 2, 2, too_far, words(AXIS)), [-3])
            self.assertEqual(focus(ONE, ONE, 2, 2, too_far, [0, 0, word]), [-3])


class NoRayLeft(unittest.TestCase):
    def test_all_fail_ahead_of_the_last_gap(self):
        for outer, size, surfaces, way in (
                (1.0, 1.0, [PANE], [0.0, 0.0, 0.0]),
                (1.0, 30.0, [[1.0, 1.0, 1.0, 9.0]], AXIS),
                (2.0, 1.0, [[0.0, 1.0, 1.0, 9.0]], [0.8, 0.0, 0.6]),
                (1.0, 3.0, [[0.0, 1.0, 1.0, 0.5]], AXIS)):
            self.assertEqual(with_both(outer, size, 2, surfaces, way), [[0], [0]])
            for steps in (1, 2, 64):
                self.assertEqual(ask(outer, size, 2, steps, surfaces, way), [-5])

    def test_with_d_alone(self):
        # c is a third of 2^1022, and by the index 5 that is finite; d is not.
        surfaces = [[0.0, 2.0 ** 1021, 5.0, 9.0]]
        self.assertEqual([told[0] for told in with_both(1.0, 1.0, 2, surfaces, AXIS)], [4, 4])
        surfaces = [[0.0, 2.0 ** 1022, 5.0, 9.0]]
        self.assertEqual([told[0] for told in with_both(1.0, 1.0, 2, surfaces, AXIS)], [4, 0])
        self.assertEqual(ask(1.0, 1.0, 2, 1, surfaces, AXIS), [-5])

    def test_at_a_later_step(self):
        # Rays that come together at 0.9 2^1000, so that a becomes c; and by the index 7 / 9 of 2^1000 is too much.
        index = 2.0 ** 24 / 0.72
        surfaces = [[-1 / (0.9 * 2.0 ** 1000), 2.0 ** 999, index, 9.0]]
        self.assertEqual(ask(2 * index, 1.0, 2, 1, surfaces, AXIS), [0, bits_of((2.0 ** 1000 / 3 + 2.0 ** 1000) / 2)])
        for steps in (2, 3, 64):
            self.assertEqual(ask(2 * index, 1.0, 2, steps, surfaces, AXIS), [-5])

    def test_with_c_alone(self):
        # The rays are 0.29 2^500 behind the surface's middle, as is d. From there back to c is too far for the index.
        z = 2.0 ** 500 * (1 - 0.5 ** 0.5)
        surfaces = [[2.0 ** -500, 0.75 * z, 2.0 ** 1023 / (0.1 * z), 2.0 ** 500]]
        self.assertEqual([told[0] for told in with_both(1.0, 2.0 ** 500, 2, surfaces, AXIS)], [0, 4])
        self.assertEqual(ask(1.0, 2.0 ** 500, 2, 1, surfaces, AXIS), [-5])

    def test_with_some_rays_left(self):
        # The corners are stopped, the others aren't.
        asked = (ONE, bits_of(2.0), 4, 3, words_of([[0.1, 1.0, 1.5, 1.6]]), words(AXIS))
        self.assertEqual(focus(*asked), machine.focus(*asked))
        self.assertEqual(focus(*asked)[0], 0)


class NoFiniteResult(unittest.TestCase):
    def test_twice_the_gap(self):
        for sign in (0, SIGN):
            surfaces = [0, sign | power(1023), power(-10), ONE]
            self.assertEqual(focus(ONE, ONE, 1, 1, surfaces, words(AXIS)), [-4])
            surfaces[1] -= 1
            self.assertEqual(focus(ONE, ONE, 1, 1, surfaces, words(AXIS))[0], 0)

    def test_twice_the_gap_ahead_of_no_ray(self):
        self.assertEqual(focus(ONE, ONE, 2, 1, [0, power(1023), ONE, ONE], words([0.0, 0.0, 0.0])), [-4])
        self.assertEqual(focus(ONE, ONE, 2, 1, [0, power(1022), ONE, ONE], words([0.0, 0.0, 0.0])), [-5])

    def test_a_and_b_together(self):
        # Rays that come together at 2.6 2^1022, so that a becomes c: b is 3.8 2^1022, and a third more is too much.
        surfaces = [[-2.0 ** -1022 / 2.6, 1.9 * 2.0 ** 1022, 1.0, 9.0]]
        self.assertEqual([told[0] for told in with_both(2.0, 4.0, 2, surfaces, AXIS)], [4, 4])
        self.assertEqual(ask(2.0, 4.0, 2, 1, surfaces, AXIS), [-4])
        surfaces = [[-2.0 ** -1022 / 2.0, 1.45 * 2.0 ** 1022, 1.0, 9.0]]
        self.assertEqual(ask(2.0, 4.0, 2, 1, surfaces, AXIS)[0], 0)

    def test_sums_with_c_alone(self):
        # At c they are at four fifths of how far out they were, at d at three fifths, where the squares are finite.
        size = 1.095 * 2.0 ** 512
        surfaces = [[2.0 ** -516, 0.9 * 2.0 ** 516, 1.5, 0.8 * 2.0 ** 512]]
        self.assertEqual([told[0] for told in with_both(1.0, size, 2, surfaces, AXIS)], [-4, 4])
        self.assertEqual(ask(1.0, size, 2, 1, surfaces, AXIS), [-4])

    def test_sums_with_d_alone(self):
        # Four rays end beside the gap: at c four of them are finite, at d not.
        surfaces = [[0.0, 0.9 * 2.0 ** 1022, 1.0, 9.0]]
        self.assertEqual([told[0] for told in with_both(1.0, 1.0, 2, surfaces, [1.0, 0.0, 1.0])], [4, -4])
        self.assertEqual(ask(1.0, 1.0, 2, 1, surfaces, [1.0, 0.0, 1.0]), [-4])

    def test_at_a_later_step(self):
        # Rays that come together at 0.9 2^1000, so that a becomes c; four of them, moved with the next d, are too much.
        surfaces = [[-1 / (0.9 * 2.0 ** 1000), 2.0 ** 999, 1.0, 9.0]]
        way = [2.0 ** 22 / 0.72 / 2, 0.0, 1.0]
        self.assertEqual(ask(2.0, 1.0, 2, 1, surfaces, way)[0], 0)
        for steps in (2, 3, 64):
            self.assertEqual(ask(2.0, 1.0, 2, steps, surfaces, way), [-4])

    def test_of_c_ahead_of_no_ray_with_d(self):
        surfaces = [[0.0, 1.9 * 2.0 ** 1022, 1.6, 9.0]]
        self.assertEqual([told[0] for told in with_both(1.0, 1.0, 2, surfaces, [1.6, 0.0, 1.0])], [-4, 0])
        self.assertEqual(ask(1.0, 1.0, 2, 1, surfaces, [1.6, 0.0, 1.0]), [-4])

    def test_of_d_behind_no_ray_with_c(self):
        # As where c alone has no ray, but so far out that the squares of those with d are too large.
        radius = 1.2 * 2.0 ** 512
        z = radius * (1 - (1 - 0.5 / 1.44) ** 0.5)
        surfaces = [[1 / radius, 0.75 * z, 2.0 ** 1023 / (0.1 * z), 1.9 * 2.0 ** 511]]
        self.assertEqual([told[0] for told in with_both(1.0, 2.0 ** 512, 2, surfaces, AXIS)], [0, -4])
        self.assertEqual(ask(1.0, 2.0 ** 512, 2, 1, surfaces, AXIS), [-5])


class ByItself(EachCallByItself, unittest.TestCase):
    CALL = staticmethod(focus)
    NAMES = ["outer", "size", "m", "steps", "surfaces", "way"]
    LENGTHS = {0: 2}
    CALLS = [
        ((ONE, bits_of(9.0), 3, 5, words_of(DOUBLET), words(SLANTED)), 0),
        ((ONE, bits_of(9.0), 2, 2, words_of(long_row(64)), words(SLANTED)), 0),
        ((ONE, bits_of(9.0), 2, 2, [], words(SLANTED)), -2),
        ((ONE, bits_of(9.0), 2, 65, words_of(DOUBLET), words(SLANTED)), -2),
        ((SIGN, bits_of(9.0), 3, 2, words_of(DOUBLET), words(SLANTED)), -3),
        ((ONE, ONE, 2, 2, words_of([[0.0, 2.0 ** 1023, 1.0, 9.0]]), words(AXIS)), -4),
        ((ONE, ONE, 2, 2, words_of([PANE]), words([0.0, 0.0, 0.0])), -5),
    ]


if __name__ == "__main__":
    unittest.main()
