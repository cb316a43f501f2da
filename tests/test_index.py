"""Promise 1: index."""

import math
import unittest
from fractions import Fraction

from lensbits.lenses import index
from tests.bits import (
    GREATEST, LEAST, LEAST_NORMAL, NOT_FINITE, ONE, SIGN,
    bits_of, double_of, is_finite, mixed_words, negative, power,
)
from tests.calls import EachCallByItself

CROWN = [1.03961212, 0.231792344, 1.01046945, 0.00600069867, 0.0200179144, 103.560653]
FLINT = [1.73759695, 0.313747346, 1.89878101, 0.013188707, 0.0623068142, 155.23629]


def ask(wave, glass):
    return index(bits_of(wave), [bits_of(number) for number in glass])


def machine(wave, glass):
    """The same steps with the machine's own doubles."""
    square = wave * wave
    terms = []
    try:
        for above, below in zip(glass[:3], glass[3:]):
            terms.append([above * square, square - below])
            terms[-1].append(terms[-1][0] / terms[-1][1])
        sums = [1.0 + terms[0][2]]
        sums.append(sums[0] + terms[1][2])
        sums.append(sums[1] + terms[2][2])
        reached = [square] + sums + [step for term in terms for step in term]
        if not all(math.isfinite(step) for step in reached):
            return [-4]
        return [0, bits_of(math.sqrt(sums[2]))]
    except (ZeroDivisionError, ValueError):
        return [-4]


class Ordinary(unittest.TestCase):
    def test_known_glasses(self):
        self.assertEqual(ask(0.5875618, CROWN), [0, 0x3FF844D01CEC06F6])
        self.assertEqual(ask(0.4861327, CROWN), [0, 0x3FF85BA73D899F87])
        self.assertEqual(ask(0.6562725, FLINT), [0, 0x3FFC6A4FE82197E1])
        self.assertAlmostEqual(double_of(ask(0.5875618, CROWN)[1]), 1.5168, places=5)

    def test_vacuum(self):
        self.assertEqual(ask(0.5, [0.0, 0.0, 0.0, 1.0, 2.0, 3.0]), [0, ONE])
        self.assertEqual(ask(0.5, [-0.0, -0.0, -0.0, -1.0, -2.0, -0.0]), [0, ONE])

    def test_each_number_of_the_glass_has_its_place(self):
        # q = 4: 1 + 4 B1 / (4 - C1) + 4 B2 / (4 - C2) + 4 B3 / (4 - C3), all exact
        self.assertEqual(ask(2.0, [3.0, 0.0, 0.0, 0.0, 1.0, 2.0]), [0, bits_of(2.0)])
        self.assertEqual(ask(2.0, [0.0, 6.0, 0.0, 0.0, 1.0, 2.0]), [0, bits_of(3.0)])
        self.assertEqual(ask(2.0, [0.0, 0.0, 7.5, 0.0, 1.0, 2.0]), [0, bits_of(4.0)])
        self.assertEqual(ask(2.0, [5.0, 3.0, 14.0, 2.0, 3.0, 8.0]), [0, bits_of(3.0)])

    def test_sweep_of_glasses(self):
        words = mixed_words(4, 7 * 3000)
        for start in range(0, len(words), 7):
            drawn = [word / 2 ** 64 for word in words[start:start + 7]]
            wave = 0.2 + 2 * drawn[0]
            glass = [2 * part for part in drawn[1:4]] + [drawn[4] / 40, drawn[5] / 10, 40 + 100 * drawn[6]]
            self.assertEqual(ask(wave, glass), machine(wave, glass), (wave, glass))

    def test_sweep_of_any_doubles(self):
        words = [word for word in mixed_words(5, 7 * 6000) if is_finite(word)]
        answered = {0: 0, -4: 0}
        for start in range(0, len(words) - 6, 7):
            wave = words[start] & ~SIGN
            # An exponent of which the square is mostly finite.
            wave = wave & (LEAST_NORMAL - 1) | (508 + (wave >> 52) % 1030) << 52
            glass = words[start + 1:start + 7]
            told = index(wave, glass)
            self.assertEqual(told, machine(double_of(wave), [double_of(number) for number in glass]), (wave, glass))
            answered[told[0]] += 1
        self.assertGreater(min(answered.values()), 100)


class Steps(unittest.TestCase):
    """With wave 1 and C 0, B is the term itself, so that a B of -1 takes the first 1 away and shows the others bare."""

    def test_sum_halfway(self):
        self.assertEqual(ask(1.0, [2.0 ** -53, -1.0, 0.0, 0.0, 0.0, 0.0]), [0, 0])
        self.assertEqual(ask(1.0, [3 * 2.0 ** -53, -1.0, 0.0, 0.0, 0.0, 0.0]), [0, bits_of(math.sqrt(2.0 ** -51))])
        self.assertEqual(ask(1.0, [5 * 2.0 ** -53, -1.0, 0.0, 0.0, 0.0, 0.0]), [0, bits_of(math.sqrt(2.0 ** -51))])

    def test_difference_halfway(self):
        self.assertEqual(ask(1.0, [-1.0, 0.0, 0.0, 2.0 ** -54, 0.0, 0.0]), [0, 0])
        self.assertEqual(ask(1.0, [-(1 - 2.0 ** -52), 0.0, 0.0, 3 * 2.0 ** -54, 0.0, 0.0]), [0, 0])

    def test_product_halfway(self):
        # q is 9, and the doubles from there on lie 2^-49 apart. 9 (1 + 2^-50) is 4.5 of these beyond 9 (4 is even),
        # 9 (1 + 3 2^-50) is 13.5 (14 is even). C is chosen so that q - C is the even one, and the quotient just -1.
        self.assertEqual(ask(3.0, [-(1 + 2.0 ** -50), 0.0, 0.0, -4 * 2.0 ** -49, 0.0, 0.0]), [0, 0])
        self.assertEqual(ask(3.0, [-(1 + 3 * 2.0 ** -50), 0.0, 0.0, -14 * 2.0 ** -49, 0.0, 0.0]), [0, 0])

    def test_product_below_the_least_normal(self):
        least = power(-537)
        zeros = [0, 0, 0, 0, 0]
        self.assertEqual(index(least, [bits_of(3.0)] + zeros), [0, bits_of(2.0)])
        self.assertEqual(index(least, [bits_of(0.5)] + zeros), [0, ONE])
        self.assertEqual(index(least, [bits_of(0.5) + 1] + zeros), [0, bits_of(math.sqrt(2.0))])
        self.assertEqual(index(least, [bits_of(1.5)] + zeros), [0, bits_of(math.sqrt(3.0))])
        self.assertEqual(index(least, [bits_of(2.5)] + zeros), [0, bits_of(math.sqrt(3.0))])
        self.assertEqual(index(least, [bits_of(3.5)] + zeros), [0, bits_of(math.sqrt(5.0))])

    def test_square_that_falls_to_zero(self):
        ones = [ONE] * 6
        self.assertEqual(index(power(-538), ones), [0, ONE])
        self.assertEqual(index(LEAST, ones), [0, ONE])
        self.assertEqual(index(power(-538), [ONE, ONE, ONE, 0, ONE, ONE]), [-4])
        self.assertEqual(index(power(-538), [ONE, ONE, ONE, ONE, SIGN, ONE]), [-4])

    def test_difference_below_the_least_normal(self):
        # q is 2^-1022, the least normal double: less the one before it, the least double is left.
        wave = power(-511)
        self.assertEqual(
            index(wave, [bits_of(3 * 2.0 ** -52), 0, 0, LEAST_NORMAL - 1, 0, 0]), [0, bits_of(2.0)])
        self.assertEqual(index(wave, [ONE, 0, 0, LEAST_NORMAL - 1, 0, 0]), [0, bits_of(2.0 ** 26)])

    def test_quotient_below_the_least_normal(self):
        gone = negative(ONE)
        less_one = negative(ONE)
        root_of_two_least = bits_of(math.sqrt(2.0) * 2.0 ** -537)
        self.assertEqual(index(ONE, [gone, 3, 0, 0, less_one, 0]), [0, root_of_two_least])
        self.assertEqual(index(ONE, [gone, 5, 0, 0, less_one, 0]), [0, root_of_two_least])
        self.assertEqual(index(ONE, [gone, 1, 0, 0, less_one, 0]), [0, 0])
        self.assertEqual(index(ONE, [gone, 0, 8, 0, 0, less_one]), [0, power(-536)])

    def test_root_of_what_is_below_the_least_normal(self):
        self.assertEqual(index(ONE, [negative(ONE), LEAST, 0, 0, 0, 0]), [0, power(-537)])
        self.assertEqual(
            index(ONE, [negative(ONE), LEAST_NORMAL - 1, 0, 0, 0, 0]),
            [0, bits_of(math.sqrt(double_of(LEAST_NORMAL - 1)))])

    def test_root_to_the_last_bit(self):
        self.assertEqual(ask(1.0, [1.0, 0.0, 0.0, 0.0, 0.0, 0.0]), [0, 0x3FF6A09E667F3BCD])
        self.assertEqual(ask(1.0, [2.0, 0.0, 0.0, 0.0, 0.0, 0.0]), [0, 0x3FFBB67AE8584CAA])
        self.assertEqual(ask(1.0, [2.0, 2.0, 0.0, 0.0, 0.0, 0.0]), [0, 0x4001E3779B97F4A8])
        self.assertEqual(index(ONE, [power(-52), 0, 0, 0, 0, 0]), [0, ONE])
        self.assertEqual(index(ONE, [negative(power(-53)), 0, 0, 0, 0, 0]), [0, ONE - 1])

    def test_zero_has_no_sign_when_a_sum_ends_in_it(self):
        self.assertEqual(ask(1.0, [-1.0, 0.0, 0.0, 0.0, 0.0, 0.0]), [0, 0])
        self.assertEqual(ask(1.0, [-1.0, -0.0, -0.0, 0.0, 0.0, 0.0]), [0, 0])
        self.assertEqual(ask(1.0, [1.0, -1.0, -1.0, -0.0, -0.0, -0.0]), [0, 0])

    def test_greatest_double_and_just_beyond_it(self):
        root_of_greatest = power(512) - 1
        self.assertEqual(index(ONE, [GREATEST, 0, 0, 0, 0, 0]), [0, root_of_greatest])
        self.assertEqual(index(ONE, [GREATEST, power(970) - 1, 0, 0, 0, 0]), [0, root_of_greatest])
        self.assertEqual(index(ONE, [GREATEST, power(970), 0, 0, 0, 0]), [-4])
        self.assertEqual(index(ONE, [0, GREATEST, power(970) - 1, 0, 0, 0]), [0, root_of_greatest])
        self.assertEqual(index(ONE, [0, GREATEST, power(970), 0, 0, 0]), [-4])

    def test_great_answer(self):
        self.assertEqual(ask(1.0, [2.0 ** 1000, 0.0, 0.0, 0.0, 0.0, 0.0]), [0, power(500)])


def quotients(wave, glass):
    square = wave * wave
    return [above * square / (square - below) for above, below in zip(glass[:3], glass[3:])]


def summed(terms):
    return math.sqrt(((1.0 + terms[0]) + terms[1]) + terms[2])


def other_orders(wave, glass):
    """What would be answered if steps were taken in another order, or put together in one rounding."""
    square = wave * wave
    pairs = list(zip(glass[:3], glass[3:]))
    first, second, third = quotients(wave, glass)
    fused = Fraction(1)
    for above, below in pairs:
        fused = Fraction(float(fused + Fraction(above * square) / Fraction(square - below)))
    return {
        "quotient ahead of product": summed([above * (square / (square - below)) for above, below in pairs]),
        "product behind quotient": summed([above / (square - below) * square for above, below in pairs]),
        "wave by wave": summed([above * wave * wave / (square - below) for above, below in pairs]),
        "terms ahead of 1": math.sqrt(1.0 + (first + second + third)),
        "backwards": summed([third, second, first]),
        "last two first": math.sqrt((1.0 + first) + (second + third)),
        "square and difference in one": summed(
            [above * square / float(Fraction(wave) ** 2 - Fraction(below)) for above, below in pairs]),
        "product and quotient in one": summed(
            [float(Fraction(above) * Fraction(square) / Fraction(square - below)) for above, below in pairs]),
        "quotient and sum in one": math.sqrt(fused),
        "all sums in one": math.sqrt(float(1 + Fraction(first) + Fraction(second) + Fraction(third))),
    }


class Order(unittest.TestCase):
    WAVE = 1.0733
    GLASS = [0.813175, 0.812053, 1.688112, 0.00642, 0.051524, 106.7486]

    def test_in_the_order_that_is_told(self):
        self.assertEqual(ask(self.WAVE, self.GLASS), [0, 0x3FFA0B09B5D38A04])

    def test_every_other_order_would_show(self):
        for name, other in other_orders(self.WAVE, self.GLASS).items():
            self.assertNotEqual(ask(self.WAVE, self.GLASS), [0, bits_of(other)], name)

    def test_a_step_on_the_way_is_not_spared(self):
        # Each of these has a finite result, if only a step on the way to it had one too.
        self.assertEqual(ask(2.0 ** 512, [0.0, 0.0, 0.0, 1.0, 1.0, 1.0]), [-4])
        self.assertEqual(ask(2.0 ** 511, [4.0, 0.0, 0.0, 0.0, 0.0, 0.0]), [-4])
        self.assertEqual(index(ONE, [GREATEST, GREATEST, negative(GREATEST), 0, 0, 0]), [-4])
        self.assertEqual(
            index(ONE, [GREATEST, negative(GREATEST), GREATEST, 0, 0, 0]), [0, power(512) - 1])


class ImpossibleNumbers(unittest.TestCase):
    WAVE = bits_of(0.5875618)
    GLASS = [bits_of(number) for number in CROWN]

    def test_wave_not_finite(self):
        for number in NOT_FINITE:
            self.assertEqual(index(number, self.GLASS), [-3], hex(number))

    def test_each_number_of_the_glass_not_finite(self):
        for place in range(6):
            for number in NOT_FINITE:
                glass = list(self.GLASS)
                glass[place] = number
                self.assertEqual(index(self.WAVE, glass), [-3], (place, hex(number)))

    def test_wave_not_above_zero(self):
        for wave in (0, SIGN, SIGN | LEAST, negative(LEAST_NORMAL), negative(self.WAVE), negative(GREATEST)):
            self.assertEqual(index(wave, self.GLASS), [-3], hex(wave))

    def test_least_wave_above_zero_is_taken(self):
        self.assertEqual(index(LEAST, self.GLASS), [0, ONE])

    def test_greatest_numbers_are_taken_as_finite(self):
        self.assertEqual(index(self.WAVE, [0, 0, 0, GREATEST, negative(GREATEST), GREATEST]), [0, ONE])

    def test_ahead_of_no_finite_result(self):
        too_large = power(512)
        for place in range(6):
            for number in NOT_FINITE:
                glass = [ONE] * 6
                glass[place] = number
                self.assertEqual(index(too_large, glass), [-3])
                self.assertEqual(index(ONE, glass), [-3])
        for wave in [0, SIGN, negative(ONE), negative(too_large)] + NOT_FINITE:
            self.assertEqual(index(wave, [ONE] * 6), [-3])
            self.assertEqual(index(wave, [ONE, ONE, ONE, 0, 0, 0]), [-3])


class NoFiniteResult(unittest.TestCase):
    def test_quotient_by_zero(self):
        wave = 0.7
        for place in range(3):
            for above in (1.0, -1.0, 0.0, -0.0):
                glass = [above] * 3 + [0.0] * 3
                glass[3 + place] = wave * wave
                self.assertEqual(ask(wave, glass), [-4], (place, above))

    def test_beside_a_quotient_by_zero(self):
        below = bits_of(0.7 * 0.7)
        for place in range(3):
            for near in (below - 1, below + 1):
                glass = [0] * 6
                glass[3 + place] = near
                self.assertEqual(index(bits_of(0.7), glass), [0, ONE])

    def test_root_of_what_is_below_zero(self):
        self.assertEqual(ask(1.0, [-2.0, 0.0, 0.0, 0.0, 0.0, 0.0]), [-4])
        self.assertEqual(index(ONE, [negative(ONE + 1), 0, 0, 0, 0, 0]), [-4])
        self.assertEqual(index(ONE, [negative(ONE), negative(LEAST), 0, 0, 0, 0]), [-4])
        self.assertEqual(index(ONE, [negative(GREATEST), 0, 0, 0, 0, 0]), [-4])

    def test_square_of_wave(self):
        none = [0, 0, 0, ONE, ONE, ONE]
        self.assertEqual(index(power(512) - 1, none), [0, ONE])
        self.assertEqual(index(power(512), none), [-4])
        self.assertEqual(index(GREATEST, none), [-4])

    def test_product(self):
        for place in range(3):
            for above in (GREATEST, negative(GREATEST)):
                glass = [0] * 6
                glass[place] = above
                self.assertEqual(index(ONE + 1, glass), [-4])

    def test_difference(self):
        # q is 2^1022: with a C of -1.5 2^1023, q - C is 2^1024, and the greatest double with the C before it.
        for place in range(3):
            glass = [0] * 6
            glass[3 + place] = negative(bits_of(1.5 * 2.0 ** 1023))
            self.assertEqual(index(power(511), glass), [-4])
            glass[3 + place] -= 1
            self.assertEqual(index(power(511), glass), [0, ONE])

    def test_quotient(self):
        # q is 1, and q - C is 2^-53.
        for place in range(3):
            for sign in (0, SIGN):
                glass = [0] * 6
                glass[3 + place] = ONE - 1
                glass[place] = sign | power(971)
                self.assertEqual(index(ONE, glass), [-4])
            glass[place] = power(971) - 1
            self.assertEqual(index(ONE, glass), [0, power(512) - 1])

    def test_sum(self):
        half = bits_of(2.0 ** 1023)
        self.assertEqual(index(ONE, [half, half, 0, 0, 0, 0]), [-4])
        self.assertEqual(index(ONE, [0, half, half, 0, 0, 0]), [-4])
        self.assertEqual(index(ONE, [half, 0, half, 0, 0, 0]), [-4])
        self.assertEqual(index(ONE, [negative(half), negative(half), 0, 0, 0, 0]), [-4])


class ByItself(EachCallByItself, unittest.TestCase):
    CALL = staticmethod(index)
    NAMES = ["wave", "glass"]
    LENGTHS = {0: 2}
    CALLS = [
        ((bits_of(0.5875618), [bits_of(number) for number in CROWN]), 0),
        ((SIGN, [bits_of(number) for number in CROWN]), -3),
        ((ONE, [ONE] * 6), -4),
        ((ONE, [ONE, ONE, ONE, ONE, ONE, NOT_FINITE[0]]), -3),
    ]


if __name__ == "__main__":
    unittest.main()
