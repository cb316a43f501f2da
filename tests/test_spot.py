"""Promise 4: spot."""

import unittest

from lensbits.lenses import ray, spot
from tests import machine
from tests.bits import (
    GREATEST, LEAST, NOT_ABOVE_ZERO, NOT_FINITE, ONE, SIGN,
    bits_of, double_of, is_finite, mixed_words, negative, power,
)
from tests.calls import EachCallByItself
from tests.samples import (
    DOUBLET, FLAT_AND_CURVED, PANE, drawn_surfaces, long_row, shares, with_number, words, words_of,
)

AXIS = [0.0, 0.0, 1.0]
SLANTED = [0.02, 0.03, 0.99935]

NOT_1_TO_64 = [0, -1, 65, 66, -64, 1000, -2147483648, 2147483647]


def ask(outer, size, m, surfaces, way):
    return spot(bits_of(outer), bits_of(size), m, words_of(surfaces), words(way))


def numbers(told):
    return [told[0]] + [double_of(word) for word in told[1:]]


def single_rays(outer, size, m, surfaces, way):
    """What ray answers for each of the rays of spot, in their order."""
    told = []
    for j in range(m):
        for i in range(m):
            x, y = (size * ((2 * number + 1 - m) / m) for number in (i, j))
            told.append(ray(bits_of(outer), words_of(surfaces), words([x, y, 0.0, *way])))
    return told


class Ordinary(unittest.TestCase):
    def test_m_1(self):
        self.assertEqual(
            ask(1.0, 11.0, 1, DOUBLET[:1], SLANTED), [1, 0x3FB442466D8CBBCA, 0x3FBE6369A45319AE, 0])

    def test_m_2(self):
        self.assertEqual(
            ask(1.0, 11.0, 2, DOUBLET[:2], SLANTED), [4, 0x3FBC94C5A5F33DA0, 0x3FC56F94344A19E0, 0x401DF955BD372800])

    def test_m_3(self):
        self.assertEqual(
            ask(1.0, 11.0, 3, DOUBLET, SLANTED), [9, 0x40003035807D3294, 0x400848504379569C, 0x3F9037355CCFA551])

    def test_larger_m(self):
        self.assertEqual(
            ask(1.0, 11.0, 8, DOUBLET, SLANTED), [60, 0x4000301813C2EE14, 0x400848241F2F57E1, 0x3F8F467C63C3200C])
        told = ask(1.0, 11.0, 5, FLAT_AND_CURVED, SLANTED)
        self.assertEqual(told, [21, 0x3FEEE77C8B11E622, 0x3FF72D9BB2F08983, 0x401B708537D34F66])

    def test_64_surfaces(self):
        self.assertEqual(
            ask(1.0, 11.0, 4, long_row(64), SLANTED), [16, 0x3FE754414241DEE0, 0x3FF17F30F1AAE6E0, 0x402196A534DBEDF8])

    def test_m_64(self):
        told = ask(1.0, 8.0, 64, DOUBLET[:1], SLANTED)
        self.assertEqual(told, machine.spot(ONE, bits_of(8.0), 64, words_of(DOUBLET[:1]), words(SLANTED)))
        self.assertEqual(told[0], 4096)

    def test_whole_numbers(self):
        # Rays at -1 and 1, each way, moved by 3 and -2: 1 away from the middle in x and in y.
        told = ask(1.0, 2.0, 2, [[0.0, 1.0, 1.0, 9.0]], [3.0, -2.0, 1.0])
        self.assertEqual(told, [4] + words([3.0, -2.0, 2.0 ** 0.5]))
        # Rays at -2, 0, 2: by 9 of them, S is 6 (4 + 0 + 4).
        told = ask(1.0, 3.0, 3, [[0.0, 1.0, 1.0, 9.0]], AXIS)
        self.assertEqual(told, [9] + words([0.0, 0.0, (48 / 9) ** 0.5]))

    def test_the_last_gap(self):
        told = ask(1.0, 2.0, 2, [[0.0, 5.0, 1.0, 9.0]], [3.0, -2.0, 1.0])
        self.assertEqual(numbers(told)[:3], [4, 15.0, -10.0])


class Places(unittest.TestCase):
    """A way that brings just one ray through a narrow surface, and a gap below 0 that brings it back to its place."""

    def alone(self, size, m, x, y):
        surfaces = [[0.0, 1.0, 1.0, 2.0 ** 100], [0.0, -1.0, 1.0, 2.0 ** -200]]
        return ask(1.0, size, m, surfaces, [-x, -y, 1.0])

    def check(self, size, m):
        other = 0
        for j in range(m):
            for i in range(m):
                x = size * ((2 * i + 1 - m) / m)
                y = size * ((2 * j + 1 - m) / m)
                told = self.alone(size, m, x, y)
                self.assertEqual(numbers(told), [1, x, y, 0.0], (m, i, j))
                other += size * (2 * i + 1 - m) / m != x
        return other

    def test_places(self):
        for m in (1, 2, 3, 5, 7):
            self.check(0.7, m)
            self.check(-12.3, m)

    def test_quotient_ahead_of_product(self):
        self.assertGreater(self.check(0.7, 6), 0)
        self.assertGreater(self.check(0.1, 7), 0)

    def test_another_place_has_no_ray(self):
        self.assertEqual(self.alone(0.7, 3, 0.7, 0.7), [0])
        self.assertEqual(self.alone(0.7, 2, 0.0, 0.0), [0])
        self.assertEqual(self.alone(0.7, 2, 0.35, 0.7), [0])

    def test_they_begin_at_the_middle_of_the_first_surface(self):
        # With z = 0 nothing is gone until there: the way's x counts in the gap alone.
        self.assertEqual(numbers(ask(1.0, 1.0, 1, [[0.0, 0.0, 1.0, 1.0]], [5.0, 6.0, 1.0])), [1, 0.0, 0.0, 0.0])


class Order(unittest.TestCase):
    def sums(self, ends):
        """X, Y and the third number of ends as they stand, and with other orders of the steps."""
        n = float(len(ends))

        def spread(X, Y, term):
            total = 0.0
            for x, y in ends:
                total = term(total, x - X, y - Y)
            return [X, Y, (total / n) ** 0.5]

        def added(total, dx, dy):
            return total + (dx * dx + dy * dy)

        def in_a_row(numbers, total=0.0):
            for number in numbers:
                total = total + number
            return total

        backwards = [in_a_row([end[axis] for end in ends[::-1]]) / n for axis in (0, 1)]
        X = in_a_row([x for x, _ in ends]) / n
        Y = in_a_row([y for _, y in ends]) / n
        square_x = in_a_row([(x - X) * (x - X) for x, _ in ends])
        square_y = in_a_row([(y - Y) * (y - Y) for _, y in ends])
        return {
            "as told": spread(X, Y, added),
            "backwards": spread(*backwards, added),
            "shares first": spread(in_a_row([x / n for x, _ in ends]), in_a_row([y / n for _, y in ends]), added),
            "squares one by one": spread(X, Y, lambda total, dx, dy: total + dx * dx + dy * dy),
            "x and y apart": [X, Y, ((square_x + square_y) / n) ** 0.5],
            "roots apart": [X, Y, (square_x + square_y) ** 0.5 / n ** 0.5],
            "squares less the middle's": [X, Y, abs(
                in_a_row([x * x + y * y for x, y in ends]) / n - (X * X + Y * Y)) ** 0.5],
        }

    def test_every_other_order_would_show(self):
        seen = {}
        for number, size in enumerate(shares(60, 40)):
            m = 2 + number % 6
            told = ask(1.0, 1 + 9 * size, m, DOUBLET, SLANTED)
            rays = single_rays(1.0, 1 + 9 * size, m, DOUBLET, SLANTED)
            ends = [(double_of(x), double_of(y)) for _, x, y, *_ in rays]
            columns = [ends[j * m + i] for i in range(m) for j in range(m)]
            others = self.sums(ends)
            self.assertEqual(told[1:], words(others.pop("as told")))
            others["i outside"] = self.sums(columns)["as told"]
            for name, other in others.items():
                seen[name] = seen.get(name, 0) + (told[1:] != words(other))
        self.assertEqual(len(seen), 7)
        for name, count in seen.items():
            self.assertGreater(count, 5, name)

    def test_sums_begin_at_0(self):
        # The one ray ends at x = -0, and 0 + (-0) is 0.
        surfaces = [[0.0, -1.0, 1.0, 1.0]]
        self.assertEqual(ray(ONE, words_of(surfaces), words([-0.0, -0.0, 0.0, -0.0, -0.0, 1.0]))[1:3], [SIGN, SIGN])
        self.assertEqual(ask(1.0, -1.0, 1, surfaces, [-0.0, -0.0, 1.0]), [1, 0, 0, 0])


class Sweeps(unittest.TestCase):
    def check(self, outer, size, m, surfaces, way):
        told = spot(outer, size, m, surfaces, way)
        self.assertEqual(told, machine.spot(outer, size, m, surfaces, way), (outer, size, m, surfaces, way))
        return told[0]

    def test_lenses(self):
        counts = {}
        for count in (1, 2, 3, 6):
            drawn = shares(70 + count, (4 * count + 4) * 60)
            for number, start in enumerate(range(0, len(drawn), 4 * count + 4)):
                surfaces = drawn_surfaces(drawn[start + 4:start + 4 + 4 * count], 9.0 if number % 3 else 40.0)
                size, L, M, outer = drawn[start:start + 4]
                way = [L / 3 - 0.1, M / 3 - 0.1, 1 - L / 30]
                m = 1 + number % 5
                told = self.check(bits_of(1 + outer), bits_of(12 * size), m, words_of(surfaces), words(way))
                counts[told == m * m] = counts.get(told == m * m, 0) + 1
        self.assertGreater(min(counts[True], counts[False]), 10)

    def test_any_doubles(self):
        answered = {}
        drawn = [word for word in mixed_words(10, 30000) if is_finite(word)]
        for start in range(0, len(drawn) - 13, 13):
            near = [word & ~(0x7FF << 52) | (1023 + (word >> 52) % 41 - 20) << 52 for word in drawn[start:start + 13]]
            near[start % 13] = drawn[start]
            outer, size, *way = near[:5]
            surfaces = near[5:9 + 4 * (start % 2)]
            for place in range(2, len(surfaces), 4):
                surfaces[place] &= ~SIGN
                surfaces[place + 1] = power(500)
            if start % 4 == 0:
                # A last gap so long that squares of what it brings, and now and then sums, are too large.
                surfaces[-3] = power(500 + start % 523)
            told = self.check(outer & ~SIGN, size, 1 + start % 3, surfaces, way)
            answered[told] = answered.get(told, 0) + 1
        for number in (-4, 0, 1, 4, 9):
            self.assertGreater(answered.get(number, 0), 10, number)


class LeftOut(unittest.TestCase):
    def check(self, how, outer, size, m, surfaces, way):
        """Some rays fail so, and others arrive."""
        told = ask(outer, size, m, surfaces, way)
        rays = single_rays(outer, size, m, surfaces, way)
        arrived = [answer for answer in rays if answer[0] == 0]
        self.assertEqual({tuple(answer) for answer in rays if answer[0] != 0}, {how})
        self.assertGreater(len(arrived), 0)
        self.assertEqual(told[0], len(arrived))
        asked = (bits_of(outer), bits_of(size), m, words_of(surfaces), words(way))
        self.assertEqual(told, machine.spot(*asked))

    def test_no_finite_result_at_a_surface(self):
        self.check((-4, 0), 1.0, 1.5 * 2.0 ** 512, 3, [[0.0, 1.0, 1.0, 1.0]], AXIS)

    def test_no_finite_result_at_the_end(self):
        # Along the axis N is 1, and slanted it is less.
        surfaces = [[0.1, 2.0 ** 1020, 15.75, 9.0]]
        self.check((-4, 1), 1.0, 9.0, 3, surfaces, AXIS)

    def test_missing(self):
        self.check((-5, 0), 1.0, 2.0, 4, [[0.8, 1.0, 1.5, 9.0]], AXIS)
        self.check((-5, 1), 1.0, 2.0, 4, [PANE, [0.8, 1.0, 1.5, 9.0]], AXIS)

    def test_thrown_back(self):
        self.check((-6, 0), 2.0, 2.0, 4, [[-0.4, 1.0, 1.0, 9.0]], AXIS)
        self.check((-6, 1), 2.0, 2.0, 4, [[0.0, 1.0, 2.0, 9.0], [-0.4, 1.0, 1.0, 9.0]], AXIS)

    def test_stopped(self):
        self.check((-7, 0), 1.0, 2.0, 4, [[0.0, 1.0, 1.0, 1.0]], AXIS)
        self.check((-7, 2), 1.0, 2.0, 4, [PANE, PANE, [0.0, 1.0, 1.0, 1.0]], AXIS)

    def test_where_all_fail(self):
        for how, outer, size, surfaces, way in (
                (-4, 1.0, 2.0 ** 600, [PANE], AXIS),
                (-4, 1.0, 1.0, [PANE], [0.0, 0.0, 0.0]),
                (-4, 1.0, 1.0, [[0.0, 2.0 ** 1023, 2.0, 9.0]], AXIS),
                (-5, 1.0, 30.0, [[1.0, 1.0, 1.0, 9.0]], AXIS),
                (-6, 2.0, 1.0, [[0.0, 1.0, 1.0, 9.0]], [0.8, 0.0, 0.6]),
                (-7, 1.0, 3.0, [[0.0, 1.0, 1.0, 0.5]], AXIS)):
            for m in (2, 4):
                self.assertEqual({answer[0] for answer in single_rays(outer, size, m, surfaces, way)}, {how})
                self.assertEqual(ask(outer, size, m, surfaces, way), [0])

    def test_where_the_one_ray_fails(self):
        self.assertEqual(ask(1.0, 1.0, 1, [PANE], [0.0, 0.0, -1.0]), [0])

    def test_a_ray_that_fails_has_no_part_in_the_sums(self):
        # Three of the four are stopped at the second surface, and the one is where it was.
        surfaces = [[0.0, 1.0, 1.0, 9.0], [0.0, -1.0, 1.0, 0.5]]
        self.assertEqual(ask(1.0, 2.0, 2, surfaces, [1.0, -1.0, 1.0]), [1] + words([-1.0, 1.0, 0.0]))


class HowMany(unittest.TestCase):
    def test_no_surface(self):
        self.assertEqual(ask(1.0, 1.0, 1, [], AXIS), [-2])

    def test_m(self):
        for m in NOT_1_TO_64:
            self.assertEqual(ask(1.0, 1.0, m, [PANE], AXIS), [-2], m)
            self.assertEqual(ask(1.0, 1.0, m, [], AXIS), [-2], m)
        for m in (1, 64):
            self.assertEqual(ask(1.0, 1.0, m, [PANE], AXIS)[0], m * m)

    def test_ahead_of_a_number_that_cannot_be(self):
        for number in NOT_FINITE + NOT_ABOVE_ZERO:
            self.assertEqual(spot(number, ONE, 1, [], words(AXIS)), [-2])
            self.assertEqual(spot(number, number, 1, [], [number] * 3), [-2])
            for m in NOT_1_TO_64:
                self.assertEqual(spot(number, ONE, m, words_of([PANE]), words(AXIS)), [-2])
                self.assertEqual(spot(ONE, number, m, words_of([PANE]), words(AXIS)), [-2])
                self.assertEqual(spot(ONE, ONE, m, words_of([PANE]), [number] * 3), [-2])
                self.assertEqual(spot(ONE, ONE, m, [number] * 4, words(AXIS)), [-2])


class ImpossibleNumbers(unittest.TestCase):
    ROWS = [words_of(DOUBLET[:1]), words_of(DOUBLET), words_of(long_row(64))]
    WAY = words(SLANTED)

    def test_outer(self):
        for number in NOT_FINITE + NOT_ABOVE_ZERO:
            for surfaces in self.ROWS:
                self.assertEqual(spot(number, ONE, 2, surfaces, self.WAY), [-3], hex(number))

    def test_size(self):
        for number in NOT_FINITE:
            for surfaces in self.ROWS:
                self.assertEqual(spot(ONE, number, 2, surfaces, self.WAY), [-3], hex(number))

    def test_each_number_of_the_way(self):
        for number in NOT_FINITE:
            for place in range(3):
                for surfaces in self.ROWS:
                    told = spot(ONE, ONE, 2, surfaces, with_number(self.WAY, place, number))
                    self.assertEqual(told, [-3], (place, hex(number)))

    def test_each_number_of_the_surfaces(self):
        for surfaces in self.ROWS:
            for place in range(len(surfaces)):
                for number in NOT_FINITE + (NOT_ABOVE_ZERO if place % 4 >= 2 else []):
                    told = spot(ONE, ONE, 2, with_number(surfaces, place, number), self.WAY)
                    self.assertEqual(told, [-3], (place, hex(number)))

    def test_ahead_of_0_alone_and_of_no_finite_result(self):
        none = words_of([[0.0, 1.0, 1.0, 2.0 ** 600]])
        far = words_of([[0.0, 2.0 ** 1023, 1.0, 9.0]])
        self.assertEqual(spot(ONE, ONE, 2, none, words(AXIS)), [0])
        self.assertEqual(spot(ONE, ONE, 2, far, words([1.0, 0.0, 1.0])), [-4])
        for number in NOT_FINITE:
            self.assertEqual(spot(ONE, number, 2, none, words(AXIS)), [-3])
            self.assertEqual(spot(ONE, number, 2, far, words([1.0, 0.0, 1.0])), [-3])
            self.assertEqual(spot(ONE, ONE, 2, none, [0, number, ONE]), [-3])
            self.assertEqual(spot(number, ONE, 2, far, words([1.0, 0.0, 1.0])), [-3])


class NoFiniteResult(unittest.TestCase):
    def test_sum_of_the_places(self):
        # The four rays end beside the gap in x or in y, and four times 2^1022 is too much.
        for way in ([1.0, 0.0, 1.0], [0.0, 1.0, 1.0]):
            for gap in (2.0 ** 1023, 2.0 ** 1022, -2.0 ** 1022):
                surfaces = [[0.0, gap, 1.0, 9.0]]
                self.assertEqual({answer[0] for answer in single_rays(1.0, 1.0, 2, surfaces, way)}, {0})
                self.assertEqual(ask(1.0, 1.0, 2, surfaces, way), [-4])
                self.assertEqual(numbers(ask(1.0, 1.0, 1, surfaces, way)), [1, gap * way[0], gap * way[1], 0.0])
            gap = 2.0 ** 1022 - 2.0 ** 969
            self.assertEqual(
                numbers(ask(1.0, 1.0, 2, [[0.0, gap, 1.0, 9.0]], way))[:3], [4, gap * way[0], gap * way[1]])

    def test_squares(self):
        # A lens that spreads the rays to 2^600 from the middle.
        surfaces = [[-0.1, 2.0 ** 600, 1.5, 9.0]]
        self.assertEqual({answer[0] for answer in single_rays(1.0, 4.0, 2, surfaces, AXIS)}, {0})
        self.assertEqual(ask(1.0, 4.0, 2, surfaces, AXIS), [-4])
        surfaces[0][1] = 2.0 ** 500
        self.assertEqual(ask(1.0, 4.0, 2, surfaces, AXIS)[0], 4)

    def test_sum_of_two_squares(self):
        # A gap with which each square is about 1.04 2^1023, finite; both together aren't.
        end = double_of(single_rays(1.0, 1.0, 2, [[-0.5, 2.0 ** 511, 1.5, 9.0]], AXIS)[-1][1])
        surfaces = [[-0.5, 2.0 ** 511 * (1.02 * 2.0 ** 511.5 / end), 1.5, 9.0]]
        end = double_of(single_rays(1.0, 1.0, 2, surfaces, AXIS)[-1][1])
        self.assertLess(end * end, float("inf"))
        self.assertEqual(2 * (end * end), float("inf"))
        self.assertEqual(ask(1.0, 1.0, 2, surfaces, AXIS), [-4])

    def test_sum_of_the_squares(self):
        # For one ray 2^1022 + 2^1022, for four of them too much.
        surfaces = [[0.0, 1.0, 1.0, 2.0 ** 511.5 + 2.0 ** 470]]
        self.assertEqual({answer[0] for answer in single_rays(1.0, 2.0 ** 512, 2, surfaces, AXIS)}, {0})
        self.assertEqual(ask(1.0, 2.0 ** 512, 2, surfaces, AXIS), [-4])
        self.assertEqual(ask(1.0, 2.0 ** 510, 2, surfaces, AXIS)[0], 4)


class Sizes(unittest.TestCase):
    def test_size_0_of_either_sign(self):
        for size in (0.0, -0.0):
            for m in (1, 2, 3):
                told = ask(1.0, size, m, DOUBLET, SLANTED)
                self.assertEqual(told, machine.spot(ONE, bits_of(size), m, words_of(DOUBLET), words(SLANTED)))
                self.assertEqual(told[0], m * m)
        # All four rays are the same one: its numbers to the last bit, and no spread.
        alone = ray(ONE, words_of(DOUBLET), words([0.0, 0.0, 0.0, *SLANTED]))
        self.assertEqual(ask(1.0, 0.0, 2, DOUBLET, SLANTED), [4, alone[1], alone[2], 0])

    def test_size_below_0(self):
        for m in (1, 2, 3, 4):
            told = ask(1.0, -9.0, m, DOUBLET, SLANTED)
            self.assertEqual(told, machine.spot(ONE, bits_of(-9.0), m, words_of(DOUBLET), words(SLANTED)))
            self.assertEqual(told[0], m * m)

    def test_size_below_0_turns_the_order(self):
        there = [ask(1.0, size, 5, DOUBLET, SLANTED) for size in (3.0, 5.0, 7.0)]
        turned = [ask(1.0, -size, 5, DOUBLET, SLANTED) for size in (3.0, 5.0, 7.0)]
        self.assertNotEqual(there, turned)

    def test_least_and_greatest_size(self):
        self.assertEqual(spot(ONE, GREATEST, 1, words_of([PANE]), words(AXIS)), [1, 0, 0, 0])
        self.assertEqual(spot(ONE, GREATEST, 3, words_of([PANE]), words(AXIS)), [1, 0, 0, 0])
        self.assertEqual(spot(ONE, GREATEST, 2, words_of([PANE]), words(AXIS)), [0])
        self.assertEqual(spot(ONE, LEAST, 2, words_of([PANE]), words(AXIS)), [4, 0, 0, 0])
        self.assertEqual(spot(ONE, negative(LEAST), 3, words_of([PANE]), words(AXIS)), [9, 0, 0, 0])


class ByItself(EachCallByItself, unittest.TestCase):
    CALL = staticmethod(spot)
    NAMES = ["outer", "size", "m", "surfaces", "way"]
    LENGTHS = {4: 4, 9: 4}
    CALLS = [
        ((ONE, bits_of(9.0), 3, words_of(DOUBLET), words(SLANTED)), 9),
        ((ONE, bits_of(9.0), 2, words_of(long_row(64)), words(SLANTED)), 4),
        ((ONE, bits_of(9.0), 2, words_of([PANE]), words([0.0, 0.0, 0.0])), 0),
        ((ONE, bits_of(9.0), 2, [], words(SLANTED)), -2),
        ((ONE, bits_of(9.0), 65, words_of(DOUBLET), words(SLANTED)), -2),
        ((SIGN, bits_of(9.0), 3, words_of(DOUBLET), words(SLANTED)), -3),
        ((ONE, ONE, 2, words_of([[0.0, 2.0 ** 1023, 1.0, 9.0]]), words([1.0, 0.0, 1.0])), -4),
    ]


if __name__ == "__main__":
    unittest.main()
