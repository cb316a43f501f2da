"""Promise 2: near."""

import unittest
from fractions import Fraction

from lensbits.lenses import near
from tests import machine
from tests.bits import (
    GREATEST, LEAST, NOT_ABOVE_ZERO, NOT_FINITE, ONE, SIGN,
    bits_of, double_of, is_finite, mixed_words, negative, power,
)
from tests.calls import EachCallByItself
from tests.samples import DOUBLET, FLAT_AND_CURVED, drawn_surfaces, long_row, shares, with_number, words_of


def ask(outer, surfaces):
    return near(bits_of(outer), words_of(surfaces))


def numbers(told):
    return [double_of(word) for word in told[1:]]


class Ordinary(unittest.TestCase):
    def test_one_surface(self):
        self.assertEqual(ask(1.0, DOUBLET[:1]), [0, 0x406681EECBFF29E7, 0x406681EECBFF29E7, 0x3FEEEF0661EB9A5B])

    def test_one_surface_in_whole_numbers(self):
        # p = -1 (0.5 (2 - 1)) = -0.5, u = -0.25: 4, 4, and 1 + 2 (-0.25)
        self.assertEqual(ask(1.0, [[0.5, 2.0, 2.0, 1.0]]), [0] + [bits_of(number) for number in (4.0, 4.0, 0.5)])

    def test_two_surfaces(self):
        self.assertEqual(ask(1.0, DOUBLET[:2]), [0, 0x4074B5B1D4BF49E0, 0x40740507E110DF19, 0x3FEEB137E1215D49])

    def test_two_surfaces_in_whole_numbers(self):
        # p = -1, y = 1 + 1 (-1 / 2) = 0.5; p = -1 - 0.5 (-2 (1 - 2)) = -2, u = -2: 0.5, 0.25, and 0.5 + 3 (-2)
        surfaces = [[1.0, 1.0, 2.0, 1.0], [-2.0, 3.0, 1.0, 1.0]]
        self.assertEqual(ask(1.0, surfaces), [0] + [bits_of(number) for number in (0.5, 0.25, -5.5)])

    def test_more_surfaces(self):
        self.assertEqual(ask(1.0, DOUBLET), [0, 0x40594912A92E49F7, 0x40584089D54F686F, 0x3F15CDEAD4C96000])
        self.assertEqual(ask(1.0, FLAT_AND_CURVED), [0, 0x403BEF5C739E94A0, 0x403720EFD5A026EC, 0xBFE3538E8931026E])

    def test_64_surfaces(self):
        self.assertEqual(ask(1.0, long_row(64)), [0, 0x407F5046146567EF, 0x407FB1BB7D90FA8B, 0x3FF02E870208CA2D])

    def test_the_index_before_the_first(self):
        # p = -1 (1 (2 - 4)) = 2, u = 1
        self.assertEqual(ask(4.0, [[1.0, 0.0, 2.0, 1.0]]), [0, negative(ONE), negative(ONE), ONE])

    def test_the_half_is_not_reckoned_with(self):
        wide = [surface[:3] + [1e300] for surface in DOUBLET]
        narrow = [surface[:3] + [5e-324] for surface in DOUBLET]
        self.assertEqual(ask(1.0, wide), ask(1.0, DOUBLET))
        self.assertEqual(ask(1.0, narrow), ask(1.0, DOUBLET))

    def test_sweep_of_lenses(self):
        for count in (1, 2, 3, 5, 9, 17, 64):
            drawn = shares(20 + count, 4 * count * (600 // count))
            for start in range(0, len(drawn), 4 * count):
                surfaces = words_of(drawn_surfaces(drawn[start:start + 4 * count]))
                self.assertEqual(near(ONE, surfaces), machine.near(ONE, surfaces), surfaces)

    def test_sweep_of_any_doubles(self):
        answered = {0: 0, -4: 0}
        words = [word for word in mixed_words(6, 30000) if is_finite(word)]
        for count in (1, 2, 3):
            for start in range(0, len(words) - 13, 13):
                outer = words[start] & ~SIGN
                surfaces = words[start + 1:start + 1 + 4 * count]
                for place in range(count):
                    surfaces[4 * place + 2] &= ~SIGN
                    surfaces[4 * place + 3] &= ~SIGN
                told = near(outer, surfaces)
                self.assertEqual(told, machine.near(outer, surfaces), (outer, surfaces))
                answered[told[0]] += 1
        self.assertGreater(min(answered.values()), 100)


def other_orders(n, surfaces):
    """What would be answered for two surfaces if steps were taken in another order, or put together in one rounding."""
    (c, gap, first, _), (curve, last_gap, last, _) = surfaces

    def end(y, p):
        return y, p / last, y + last_gap * (p / last)

    def told(y, u, third):
        return [-1.0 / u, -y / u, third]

    def exact(*factors):
        product = Fraction(1)
        for factor in factors:
            product *= Fraction(factor)
        return product

    p = -(c * (first - n))
    y = 1.0 + gap * (p / first)
    behind = p - y * (curve * (last - first))
    u = behind / last
    return {
        "gap by p first": told(*end(
            1.0 + gap * p / first, p - (1.0 + gap * p / first) * (curve * (last - first)))),
        "curve by height first": told(*end(y, p - y * curve * (last - first))),
        "curve in each index": told(*end(y, p - y * (curve * last - curve * first))),
        "height by index first": told(*end(y, p - curve * (y * (last - first)))),
        "product and difference in one": told(*end(y, float(Fraction(p) - exact(y, curve * (last - first))))),
        "product and sum in one": told(*end(
            float(1 + exact(gap, p / first)), p - float(1 + exact(gap, p / first)) * (curve * (last - first)))),
        "index and curve in one": told(*end(y, p - y * float(exact(curve, Fraction(last) - Fraction(first))))),
        "not the same index": told(*end(y, p - y * (curve * (last - n)))),
        "last index by p": [-last / behind, -y / u, y + last_gap * u],
        "height by last index first": [-1.0 / u, -y * last / behind, y + last_gap * u],
        "height by first number": [-1.0 / u, y * (-1.0 / u), y + last_gap * u],
        "last gap by p first": [-1.0 / u, -y / u, y + last_gap * behind / last],
        "last product and sum in one": [-1.0 / u, -y / u, float(Fraction(y) + exact(last_gap, u))],
        "height moved behind the last": told(y + last_gap * u, u, y + last_gap * u),
    }


class Order(unittest.TestCase):
    def test_every_other_order_would_show(self):
        seen = {}
        drawn = shares(7, 4 * 100)
        for start in range(0, len(drawn), 4):
            first, second, third, fourth = drawn[start:start + 4]
            surfaces = [[0.02 + first, 1 + second, 2.5 + third, 1.0], [-0.3 - fourth, 2 + third, 0.7 + first, 1.0]]
            told = ask(1.0003, surfaces)
            for name, other in other_orders(1.0003, surfaces).items():
                seen[name] = seen.get(name, 0) + (told[1:] != [bits_of(number) for number in other])
        for name, count in seen.items():
            self.assertGreater(count, 5, name)

    def test_the_last_gap_is_in_the_third_double_alone(self):
        for last_gap in (0.0, -3.0, 1.0, 1000.0):
            told = ask(1.0, DOUBLET[:2] + [[-0.0075, last_gap, 1.0, 12.5]])
            self.assertEqual(told[:3], ask(1.0, DOUBLET)[:3])
        # u is -0.25, and y is 1 behind the last surface as before it.
        self.assertEqual(numbers(ask(1.0, [[0.5, 8.0, 2.0, 1.0]])), [4.0, 4.0, -1.0])
        self.assertEqual(numbers(ask(1.0, [[0.5, -8.0, 2.0, 1.0]])), [4.0, 4.0, 3.0])

    def test_difference_of_indexes_halfway(self):
        # 1 - 2^-54 is 1, of two the even one: p = -1, u = -1. And 1 - 3 2^-54 is 1 - 2^-52.
        self.assertEqual(numbers(ask(2.0 ** -54, [[1.0, 0.0, 1.0, 1.0]])), [1.0, 1.0, 1.0])
        told = numbers(ask(3 * 2.0 ** -54, [[1.0, 0.0, 1.0, 1.0]]))
        self.assertEqual(told, [1 / (1 - 2.0 ** -52), 1 / (1 - 2.0 ** -52), 1.0])

    def test_last_sum_halfway(self):
        # u is 0.5: y + gap u is 1 + 2^-53, then 1 + 3 2^-53.
        self.assertEqual(numbers(ask(1.0, [[-1.0, 2.0 ** -52, 2.0, 1.0]]))[2], 1.0)
        self.assertEqual(numbers(ask(1.0, [[-1.0, 3 * 2.0 ** -52, 2.0, 1.0]]))[2], 1.0 + 2.0 ** -51)


class HowMany(unittest.TestCase):
    def test_no_surface(self):
        self.assertEqual(near(ONE, []), [-2])

    def test_ahead_of_a_number_that_cannot_be(self):
        for outer in NOT_FINITE + NOT_ABOVE_ZERO:
            self.assertEqual(near(outer, []), [-2], hex(outer))

    def test_1_and_64_are_not_too_few_or_too_many(self):
        self.assertEqual(near(ONE, words_of(long_row(64)))[0], 0)
        self.assertEqual(near(ONE, words_of(DOUBLET[:1]))[0], 0)


class ImpossibleNumbers(unittest.TestCase):
    ROWS = [words_of(DOUBLET[:1]), words_of(DOUBLET), words_of(long_row(64))]

    def test_outer_not_finite(self):
        for number in NOT_FINITE:
            for surfaces in self.ROWS:
                self.assertEqual(near(number, surfaces), [-3], hex(number))

    def test_outer_not_above_zero(self):
        for number in NOT_ABOVE_ZERO:
            for surfaces in self.ROWS:
                self.assertEqual(near(number, surfaces), [-3], hex(number))

    def test_each_number_not_finite(self):
        for surfaces in self.ROWS:
            for place in range(len(surfaces)):
                for number in NOT_FINITE:
                    self.assertEqual(near(ONE, with_number(surfaces, place, number)), [-3], (place, hex(number)))

    def test_each_index_and_half_not_above_zero(self):
        for surfaces in self.ROWS:
            for place in range(len(surfaces)):
                for number in NOT_ABOVE_ZERO if place % 4 >= 2 else []:
                    self.assertEqual(near(ONE, with_number(surfaces, place, number)), [-3], (place, hex(number)))

    def test_curve_and_gap_of_0_and_below_are_taken(self):
        surfaces = words_of(DOUBLET)
        for place in range(len(surfaces)):
            for number in [0, SIGN, SIGN | LEAST, negative(ONE)] if place % 4 < 2 else []:
                changed = with_number(surfaces, place, number)
                self.assertEqual(near(ONE, changed), machine.near(ONE, changed))
                self.assertEqual(near(ONE, changed)[0], 0)

    def test_the_least_and_the_greatest_double_above_zero_are_taken(self):
        self.assertEqual(near(LEAST, [ONE, 0, ONE, ONE]), [0, ONE, ONE, ONE])
        self.assertEqual(near(ONE, [ONE, 0, ONE + 1, LEAST])[0], 0)
        self.assertEqual(near(ONE, [ONE, 0, GREATEST, GREATEST]), [0, ONE, ONE, ONE])

    def test_ahead_of_no_finite_result(self):
        without_power = [0, 0, ONE, ONE]
        for number in NOT_FINITE:
            self.assertEqual(near(number, without_power), [-3])
            for place in range(4):
                self.assertEqual(near(ONE, with_number(without_power, place, number)), [-3])
                self.assertEqual(near(ONE, without_power + with_number(without_power, place, number)), [-3])
        for number in NOT_ABOVE_ZERO:
            self.assertEqual(near(number, without_power), [-3])
            self.assertEqual(near(ONE, without_power + [0, 0, number, ONE]), [-3])
            self.assertEqual(near(ONE, [GREATEST, 0, GREATEST, number]), [-3])


class NoFiniteResult(unittest.TestCase):
    def test_power_is_0(self):
        self.assertEqual(ask(1.0, [[0.0, 1.0, 1.5, 1.0]]), [-4])
        self.assertEqual(ask(1.0, [[-0.0, 1.0, 1.5, 1.0]]), [-4])
        self.assertEqual(ask(1.5, [[1.0, 1.0, 1.5, 1.0]]), [-4])
        self.assertEqual(ask(1.5, [[-1.0, 1.0, 1.5, 1.0]]), [-4])
        self.assertEqual(ask(1.0, [[1.0, 0.0, 2.0, 1.0], [1.0, 0.0, 1.0, 1.0]]), [-4])

    def test_power_falls_to_0_of_either_sign(self):
        # p is the least double or that below 0, and by 4 it is nothing.
        self.assertEqual(near(bits_of(3.0), [LEAST, ONE, bits_of(4.0), ONE]), [-4])
        self.assertEqual(near(bits_of(3.0), [negative(LEAST), ONE, bits_of(4.0), ONE]), [-4])

    def test_power_of_0_on_the_way_is_no_failing(self):
        self.assertEqual(ask(1.0, [[0.0, 1.0, 2.0, 1.0], [1.0, 0.0, 1.0, 1.0]]), [0, negative(ONE), negative(ONE), ONE])

    def test_first_number_beyond_the_greatest(self):
        # u is -2^-1024, then -(2^-1024 + the least double), the reciprocal of which is finite.
        at = bits_of(2.0 ** -1024)
        self.assertEqual(near(ONE, [2 * at, 0, bits_of(2.0), ONE]), [-4])
        self.assertEqual(near(ONE, [negative(2 * at), 0, bits_of(2.0), ONE]), [-4])
        self.assertEqual(near(ONE, [2 * at + 2, 0, bits_of(2.0), ONE])[0], 0)

    def test_quotient_by_the_least_index(self):
        self.assertEqual(near(GREATEST, [power(-1000), 0, LEAST, ONE]), [-4])
        self.assertEqual(near(GREATEST, [power(-1023), 0, ONE, ONE])[0], 0)

    def test_product_with_the_curve(self):
        for sign in (0, SIGN):
            self.assertEqual(near(ONE, [sign | power(1023), 0, bits_of(3.0), ONE]), [-4])
            self.assertEqual(near(ONE, [sign | power(1022), 0, bits_of(3.0), ONE])[0], 0)

    def test_product_with_the_height(self):
        # y is 1 + 1 (p / 1) = 3, and 2^1023 by 3 is too large.
        surfaces = [[2.0, 1.0, 1.0, 1.0], [2.0 ** 1023, 0.0, 2.0, 1.0], [1.0, 0.0, 1.0, 1.0]]
        self.assertEqual(ask(2.0, surfaces), [-4])
        surfaces[1][0] = 2.0 ** 1022
        self.assertEqual(ask(2.0, surfaces)[0], 0)

    def test_sum_of_powers(self):
        surfaces = [[2.0 ** 1023, 0.0, 2.0, 1.0], [2.0 ** 1023, 0.0, 3.0, 1.0]]
        self.assertEqual(ask(1.0, surfaces), [-4])
        surfaces[1][0] = -2.0 ** 1023
        surfaces[1][2] = 2.5
        self.assertEqual(ask(1.0, surfaces)[0], 0)

    def test_quotient_by_an_index(self):
        # p is -2^1000 (2^-30 - 1), by 2^-30 too large
        self.assertEqual(ask(1.0, [[2.0 ** 1000, 0.0, 2.0 ** -30, 1.0]]), [-4])
        self.assertEqual(ask(1.0, [[2.0 ** 1000, 0.0, 2.0 ** -30, 1.0], [1.0, 0.0, 1.0, 1.0]]), [-4])
        self.assertEqual(ask(1.0, [[2.0 ** 1000, 0.0, 2.0 ** -20, 1.0]])[0], 0)

    def test_height_at_an_early_surface(self):
        weak = [[0.5, 1.0, 2.0, 1.0], [0.5, 1.0, 1.0, 1.0]]
        self.assertEqual(ask(1.0, [[2.0, 2.0 ** 1023, 2.0, 1.0]] + weak)[0], 0)
        self.assertEqual(ask(1.0, [[4.0, 2.0 ** 1023, 2.0, 1.0]] + weak), [-4])

    def test_sum_at_an_early_surface(self):
        # y is 2^1023: with the double before 2^1023 it goes beyond the greatest one, with the double before that not.
        for second_gap, answer in ((power(1023) - 1, -4), (power(1023) - 2, 0)):
            surfaces = [ONE, power(1023), ONE, ONE, 0, second_gap, ONE, ONE, 0, 0, ONE, ONE]
            self.assertEqual(near(bits_of(2.0), surfaces)[0], answer)

    def test_third_number(self):
        # u is -2: by a gap of 2^1023 that is too large, by one just below it isn't.
        self.assertEqual(ask(2.0, [[2.0, 2.0 ** 1023, 1.0, 1.0]]), [-4])
        self.assertEqual(near(bits_of(2.0), [power(1), power(1023) - 1, ONE, ONE])[0], 0)

    def test_last_sum(self):
        # y is 2^970, and gap u is the greatest double; with a y just below they are together finite.
        for first_gap, answer in ((power(970), -4), (power(970) - 1, 0)):
            surfaces = [ONE, first_gap, ONE, ONE, 0, GREATEST, ONE, ONE]
            self.assertEqual(near(bits_of(2.0), surfaces)[0], answer)

    def test_a_refusal_is_its_number_alone(self):
        for told in (near(ONE, []), near(0, [ONE] * 4), near(ONE, [0, ONE, ONE, ONE])):
            self.assertEqual(len(told), 1)


class SmallResults(unittest.TestCase):
    def test_second_number_is_a_zero_of_either_sign(self):
        # y = 1 + gap p is 0, and u is 1 or -1.
        rising = [[1.0, -1.0, 1.0, 1.0], [1.0, 0.0, 1.0, 1.0]]
        falling = [[-1.0, 1.0, 1.0, 1.0], [1.0, 0.0, 1.0, 1.0]]
        self.assertEqual(ask(2.0, rising), [0, negative(ONE), SIGN, 0])
        self.assertEqual(ask(2.0, falling), [0, ONE, 0, 0])

    def test_second_number_falls_to_a_zero_of_either_sign(self):
        # y is 2^-53 and u about 2^1023, of either sign.
        for sign in (1.0, -1.0):
            surfaces = [[sign, sign * (2.0 ** -53 - 1), 1.0, 1.0], [sign * 2.0 ** 1023, 0.0, 2.0 ** -53, 1.0]]
            told = ask(2.0, surfaces)
            self.assertEqual(told, machine.near(bits_of(2.0), words_of(surfaces)))
            self.assertEqual(told[2], SIGN if sign > 0 else 0)

    def test_third_number_is_0(self):
        self.assertEqual(ask(1.0, [[0.5, 4.0, 2.0, 1.0]])[3], 0)
        self.assertEqual(ask(1.0, [[-0.5, -4.0, 2.0, 1.0]])[3], 0)

    def test_first_and_second_number_below_the_least_normal(self):
        told = ask(2.0, [[2.0 ** 1023, 0.0, 1.0, 1.0]])
        self.assertEqual(told, [0, SIGN | 1 << 51, SIGN | 1 << 51, ONE])
        told = ask(2.0, [[-2.0 ** 1023, 0.0, 1.0, 1.0]])
        self.assertEqual(told, [0, 1 << 51, 1 << 51, ONE])

    def test_power_below_the_least_normal(self):
        # u is -(2^-1023 + the least double), rounded at each step.
        told = near(ONE, [(1 << 51) + 1, ONE, bits_of(2.0), ONE])
        self.assertEqual(told, machine.near(ONE, [(1 << 51) + 1, ONE, bits_of(2.0), ONE]))
        told = near(bits_of(2.0), [(1 << 51) + 3, ONE, ONE, ONE])
        self.assertEqual(told, [0, bits_of(-1 / double_of((1 << 51) + 3)), bits_of(-1 / double_of((1 << 51) + 3)), ONE])

    def test_third_number_below_the_least_normal(self):
        # y is 0, and gap u is the least double but for its sign.
        for sign in (0, SIGN):
            surfaces = [ONE, negative(ONE), ONE, ONE, ONE, sign | LEAST, ONE, ONE]
            self.assertEqual(near(bits_of(2.0), surfaces), [0, negative(ONE), SIGN, sign | LEAST])


class ByItself(EachCallByItself, unittest.TestCase):
    CALL = staticmethod(near)
    NAMES = ["outer", "surfaces"]
    LENGTHS = {0: 4}
    CALLS = [
        ((ONE, words_of(DOUBLET)), 0),
        ((ONE, words_of(long_row(64))), 0),
        ((ONE, []), -2),
        ((SIGN, words_of(DOUBLET)), -3),
        ((ONE, [0, 0, ONE, ONE]), -4),
    ]


if __name__ == "__main__":
    unittest.main()
