"""Each step by itself, to the last bit, against written bits and against the machine's own doubles."""

import math
import unittest

from lensbits import doubles
from tests.bits import (
    GREATEST, INFINITY, LEAST, LEAST_NORMAL, NOT_FINITE, ONE, SIGN,
    bits_of, double_of, is_finite, mixed_words, negative, power,
)

NONE = "no finite result"

EDGES = [
    0, LEAST, 2, 3, 5, LEAST_NORMAL // 2, LEAST_NORMAL - 2, LEAST_NORMAL - 1, LEAST_NORMAL, LEAST_NORMAL + 1,
    2 * LEAST_NORMAL, 2 * LEAST_NORMAL + 1, power(-538), power(-537), power(-511), power(-54),
    power(-53), bits_of(3 * 2.0 ** -53), power(-52), bits_of(0.1), power(-1), ONE - 1, ONE, ONE + 1, ONE + 2, ONE + 3,
    bits_of(1.5), power(1), bits_of(3.0), bits_of(10.0), bits_of(2.0 ** 53 - 1), power(53), power(53) + 1, power(54),
    power(511), power(512) - 1, power(512), power(969), power(970) - 1, power(970), power(970) + 1, power(971),
    power(1022), power(1023) - 1, power(1023), power(1023) + 1, GREATEST - 1, GREATEST,
]


def answer(step, *numbers):
    try:
        return step(*numbers)
    except doubles.NoFiniteResult:
        return NONE


def machine(step, *numbers):
    try:
        bits = bits_of(step(*[double_of(number) for number in numbers]))
    except (ZeroDivisionError, ValueError):
        return NONE
    return bits if is_finite(bits) else NONE


PAIR_STEPS = [
    (doubles.add, lambda left, right: left + right),
    (doubles.subtract, lambda left, right: left - right),
    (doubles.multiply, lambda left, right: left * right),
    (doubles.divide, lambda left, right: left / right),
]


class AgainstTheMachine(unittest.TestCase):
    def check_pair(self, left, right):
        for step, meant in PAIR_STEPS:
            if answer(step, left, right) != machine(meant, left, right):
                self.fail(f"{step.__name__} of {left:#x} and {right:#x} is {answer(step, left, right)}")

    def check_root(self, square):
        self.assertEqual(answer(doubles.root, square), machine(math.sqrt, square), hex(square))

    def test_every_pair_of_edges(self):
        signed = EDGES + [negative(edge) for edge in EDGES]
        for left in signed:
            for right in signed:
                self.check_pair(left, right)

    def test_every_root_of_an_edge(self):
        for edge in EDGES:
            self.check_root(edge)
            self.check_root(negative(edge))

    def test_mixed_words(self):
        words = [word for word in mixed_words(1, 6000) if is_finite(word)]
        for left, right in zip(words, words[1:]):
            self.check_pair(left, right)
            self.check_root(left)

    def test_words_whose_exponents_are_close(self):
        words = mixed_words(2, 12000)
        for left, right in zip(words[::2], words[1::2]):
            exponent = (left >> 52) % 64
            near = [word & ~INFINITY for word in (left, right)]
            for base in (0, 1000, 1982):
                self.check_pair(near[0] | (base + exponent) << 52, near[1] | (base + exponent // 2) << 52)

    def test_quotients_and_products_about_the_least_normal_double(self):
        words = mixed_words(3, 4000)
        for left, right in zip(words[::2], words[1::2]):
            small = (left & ~INFINITY) | (left >> 52) % 64 << 52
            self.check_pair(small, (right & ~INFINITY) | (1023 + right % 60 - 30) << 52)
            self.check_root(small & ~SIGN)


class Halfway(unittest.TestCase):
    def test_sum(self):
        self.assertEqual(doubles.add(ONE, power(-53)), ONE)
        self.assertEqual(doubles.add(ONE + 1, power(-53)), ONE + 2)
        self.assertEqual(doubles.add(ONE, power(-53) + 1), ONE + 1)

    def test_difference(self):
        self.assertEqual(doubles.subtract(ONE, power(-54)), ONE)
        self.assertEqual(doubles.subtract(ONE, bits_of(3 * 2.0 ** -54)), ONE - 2)
        self.assertEqual(doubles.subtract(ONE, power(-54) + 1), ONE - 1)

    def test_product(self):
        # (1 + 2^-52) 1.5 = 1.5 + 1.5 2^-52, and (1 + 3 2^-52) 1.5 = 1.5 + 4.5 2^-52
        half_more = bits_of(1.5)
        self.assertEqual(doubles.multiply(ONE + 1, half_more), half_more + 2)
        self.assertEqual(doubles.multiply(ONE + 3, half_more), half_more + 4)
        self.assertEqual(doubles.multiply(negative(ONE + 3), half_more), negative(half_more + 4))

    def test_product_below_the_least_normal(self):
        self.assertEqual(doubles.multiply(LEAST, power(-1)), 0)
        self.assertEqual(doubles.multiply(3, power(-1)), 2)
        self.assertEqual(doubles.multiply(5, power(-1)), 2)
        self.assertEqual(doubles.multiply(LEAST, power(-1) + 1), LEAST)

    def test_quotient_below_the_least_normal(self):
        self.assertEqual(doubles.divide(LEAST, power(1)), 0)
        self.assertEqual(doubles.divide(3, power(1)), 2)
        self.assertEqual(doubles.divide(5, power(1)), 2)
        self.assertEqual(doubles.divide(LEAST, power(1) - 1), LEAST)

    def test_greatest_below_the_least_normal_is_carried_over(self):
        self.assertEqual(doubles.divide(2 * LEAST_NORMAL - 1, power(1)), LEAST_NORMAL)


class Zeros(unittest.TestCase):
    def test_sums(self):
        self.assertEqual(doubles.add(0, 0), 0)
        self.assertEqual(doubles.add(0, SIGN), 0)
        self.assertEqual(doubles.add(SIGN, 0), 0)
        self.assertEqual(doubles.add(SIGN, SIGN), SIGN)
        self.assertEqual(doubles.add(negative(ONE), ONE), 0)

    def test_differences(self):
        self.assertEqual(doubles.subtract(0, 0), 0)
        self.assertEqual(doubles.subtract(SIGN, 0), SIGN)
        self.assertEqual(doubles.subtract(SIGN, SIGN), 0)
        self.assertEqual(doubles.subtract(negative(ONE), negative(ONE)), 0)

    def test_products_and_quotients(self):
        self.assertEqual(doubles.multiply(SIGN, ONE), SIGN)
        self.assertEqual(doubles.multiply(SIGN, negative(ONE)), 0)
        self.assertEqual(doubles.multiply(negative(LEAST), LEAST), SIGN)
        self.assertEqual(doubles.divide(0, negative(ONE)), SIGN)
        self.assertEqual(doubles.divide(SIGN, negative(ONE)), 0)
        self.assertEqual(doubles.divide(negative(LEAST), GREATEST), SIGN)

    def test_roots(self):
        self.assertEqual(doubles.root(0), 0)
        self.assertEqual(doubles.root(SIGN), SIGN)


class Roots(unittest.TestCase):
    def test_written_roots(self):
        self.assertEqual(doubles.root(bits_of(4.0)), bits_of(2.0))
        self.assertEqual(doubles.root(bits_of(2.0)), 0x3FF6A09E667F3BCD)
        self.assertEqual(doubles.root(ONE + 1), ONE)
        self.assertEqual(doubles.root(ONE - 1), ONE - 1)
        self.assertEqual(doubles.root(LEAST), power(-537))
        self.assertEqual(doubles.root(GREATEST), power(512) - 1)

    def test_below_zero(self):
        for square in (LEAST, ONE, GREATEST):
            with self.assertRaises(doubles.NoFiniteResult):
                doubles.root(negative(square))


class BeyondTheGreatest(unittest.TestCase):
    def check_none(self, step, left, right):
        with self.assertRaises(doubles.NoFiniteResult):
            step(left, right)

    def test_sum_and_difference(self):
        self.assertEqual(doubles.add(GREATEST, power(970) - 1), GREATEST)
        self.check_none(doubles.add, GREATEST, power(970))
        self.check_none(doubles.add, negative(GREATEST), negative(power(970)))
        self.assertEqual(doubles.subtract(negative(GREATEST), power(970) - 1), negative(GREATEST))
        self.check_none(doubles.subtract, negative(GREATEST), power(970))

    def test_product(self):
        self.assertEqual(doubles.multiply(power(1023), power(1) - 1), GREATEST)
        self.check_none(doubles.multiply, power(1023), power(1))
        self.check_none(doubles.multiply, GREATEST, negative(ONE + 1))

    def test_quotient(self):
        self.assertEqual(doubles.divide(GREATEST - 1, ONE - 1), GREATEST)
        self.check_none(doubles.divide, GREATEST, ONE - 1)
        self.check_none(doubles.divide, negative(ONE), LEAST)

    def test_quotient_by_zero(self):
        for above in (0, SIGN, LEAST, ONE, negative(GREATEST)):
            self.check_none(doubles.divide, above, 0)
            self.check_none(doubles.divide, above, SIGN)


class OfWholeNumbers(unittest.TestCase):
    def test_small_ones(self):
        for number in range(-70, 4100):
            self.assertEqual(doubles.double_of(number), bits_of(float(number)))

    def test_0_has_no_sign(self):
        self.assertEqual(doubles.double_of(0), 0)

    def test_large_ones_are_rounded(self):
        for number in (2 ** 53 - 1, 2 ** 53, 2 ** 53 + 1, 2 ** 53 + 3, 2 ** 60 + 2 ** 7, 2 ** 60 + 3 * 2 ** 7):
            self.assertEqual(doubles.double_of(number), bits_of(float(number)))
            self.assertEqual(doubles.double_of(-number), bits_of(float(-number)))


class Asked(unittest.TestCase):
    def test_is_finite(self):
        for edge in EDGES:
            self.assertTrue(doubles.is_finite(edge))
            self.assertTrue(doubles.is_finite(negative(edge)))
        for number in NOT_FINITE:
            self.assertFalse(doubles.is_finite(number))

    def test_is_above_zero(self):
        self.assertTrue(doubles.is_above_zero(LEAST))
        self.assertTrue(doubles.is_above_zero(GREATEST))
        for number in (0, SIGN, negative(LEAST), negative(GREATEST)):
            self.assertFalse(doubles.is_above_zero(number))

    def test_is_below_zero(self):
        self.assertTrue(doubles.is_below_zero(negative(LEAST)))
        self.assertTrue(doubles.is_below_zero(negative(GREATEST)))
        for number in (0, SIGN, LEAST, GREATEST):
            self.assertFalse(doubles.is_below_zero(number))

    def test_is_above(self):
        signed = EDGES + [negative(edge) for edge in EDGES]
        for left in signed:
            for right in signed:
                self.assertEqual(doubles.is_above(left, right), double_of(left) > double_of(right))

    def test_negative(self):
        for edge in EDGES:
            self.assertEqual(doubles.negative(edge), edge + SIGN)
            self.assertEqual(doubles.negative(edge + SIGN), edge)


if __name__ == "__main__":
    unittest.main()
