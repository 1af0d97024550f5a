import math
import operator
import unittest
from itertools import islice

from cellflow import doubles
from tests.helper import (LARGEST, LARGEST_SUBNORMAL, NOT_FINITE, SIGN, SMALLEST, SMALLEST_NORMAL, bits,
                          pseudo_random_bits, value)

FAILS = "fails"

OPERATIONS = (
    ("add", doubles.add, operator.add),
    ("subtract", doubles.subtract, operator.sub),
    ("multiply", doubles.multiply, operator.mul),
    ("divide", doubles.divide, operator.truediv),
)

MAGNITUDES = (
    0, SMALLEST, 2, 3, 5, 0x0007FFFFFFFFFFFF, 0x0008000000000000, 0x0008000000000001,
    LARGEST_SUBNORMAL - 1, LARGEST_SUBNORMAL, SMALLEST_NORMAL, SMALLEST_NORMAL + 1, 0x001FFFFFFFFFFFFF,
    0x0020000000000000, 0x0020000000000001, 0x0030000000000000,
    bits(2.0 ** -538), bits(2.0 ** -537), bits(2.0 ** -537) + 1, bits(2.0 ** -511), bits(2.0 ** -500),
    bits(2.0 ** -54), bits(2.0 ** -53), bits(2.0 ** -53) + 1, bits(2.0 ** -52), bits(3 * 2.0 ** -53),
    bits(0.1), bits(1 / 3), bits(0.5) - 1, bits(0.5), bits(1.0) - 1, bits(1.0), bits(1.0) + 1, bits(1.0) + 2,
    bits(1.5), bits(2.0) - 1, bits(2.0), bits(3.0), bits(9.0), bits(10.0), bits(36.0),
    bits(2.0 ** 52 - 0.5), bits(2.0 ** 52), bits(2.0 ** 53 - 1), bits(2.0 ** 53), bits(2.0 ** 53 + 2),
    bits(2.0 ** 511), bits(2.0 ** 512) - 1, bits(2.0 ** 512), bits(2.0 ** 969), bits(2.0 ** 970) - 1,
    bits(2.0 ** 970), bits(2.0 ** 970) + 1, bits(2.0 ** 971), bits(2.0 ** 1022), bits(2.0 ** 1023),
    LARGEST - 1, LARGEST,
)


def outcome(operation, x, y):
    try:
        return operation(x, y)
    except doubles.NotFinite:
        return FAILS


def expected(operation, x, y):
    try:
        result = operation(value(x), value(y))
    except ZeroDivisionError:
        return FAILS
    return bits(result) if math.isfinite(result) else FAILS


def finite_bits(seed, count):
    finite = (word for word in pseudo_random_bits(seed) if math.isfinite(value(word)))
    return list(islice(finite, count))


def near_pairs(seed, count):
    """Pairs whose exponents lie near one another, so that their bits meet in sums."""
    words = pseudo_random_bits(seed)
    pairs = []
    for word, other in islice(zip(words, words), count):
        base = 1 + (word >> 52) % 1900
        x = (word & (SIGN | LARGEST_SUBNORMAL)) | base << 52
        y = (other & (SIGN | LARGEST_SUBNORMAL)) | (base + (other >> 52) % 60) << 52
        pairs.append((x, y))
    return pairs


class AgainstPythonsFloats(unittest.TestCase):
    def check(self, x, y):
        for name, operation, model in OPERATIONS:
            got = outcome(operation, x, y)
            want = expected(model, x, y)
            if got != want:
                self.fail(f"{name}({x:#018x}, {y:#018x}) gave {got}, not {want}")

    def test_every_pair_of_edge_values(self):
        edges = [sign | magnitude for magnitude in MAGNITUDES for sign in (0, SIGN)]
        for x in edges:
            for y in edges:
                self.check(x, y)

    def test_values_over_the_whole_range(self):
        for x, y in zip(finite_bits(1, 6000), finite_bits(2, 6000)):
            self.check(x, y)

    def test_values_near_one_another(self):
        for x, y in near_pairs(3, 6000):
            self.check(x, y)

    def test_values_near_zero_handed_in(self):
        fraction = LARGEST_SUBNORMAL | SIGN
        for x, y in zip(finite_bits(4, 2000), finite_bits(5, 2000)):
            self.check(x & fraction, y & fraction)
            self.check(x & fraction, y)
            self.check(x, y & fraction)

    def test_products_and_quotients_near_zero(self):
        words = pseudo_random_bits(6)
        for word, other in islice(zip(words, words), 4000):
            x = (word & (SIGN | LARGEST_SUBNORMAL)) | (1 + (word >> 52) % 1000) << 52
            y_exponent = max(1, 1023 - (x >> 52 & 2047) - (other >> 52) % 56)
            y = (other & (SIGN | LARGEST_SUBNORMAL)) | y_exponent << 52
            inverse = (y & (SIGN | LARGEST_SUBNORMAL)) | (2046 - y_exponent) << 52
            self.check(x, y)
            self.check(x, inverse)

    def test_results_near_the_largest(self):
        words = pseudo_random_bits(7)
        for word, other in islice(zip(words, words), 2000):
            x = (word & (SIGN | LARGEST_SUBNORMAL)) | (2044 + (word >> 52) % 3) << 52
            y = (other & (SIGN | LARGEST_SUBNORMAL)) | (1021 + (other >> 52) % 4) << 52
            self.check(x, y)
            self.check(x, x ^ (other & LARGEST_SUBNORMAL))

    def test_quotients_of_small_whole_numbers(self):
        for x in range(1, 60):
            for y in range(1, 60):
                self.check(bits(float(x)), bits(float(y)))


class WrittenOut(unittest.TestCase):
    """Answers worked out by hand, so that the tests do not lean on Python's floats alone."""

    ONE = 0x3FF0000000000000
    TWO = 0x4000000000000000
    MINUS_ONE = 0xBFF0000000000000
    MINUS_ZERO = 0x8000000000000000

    def test_ties_go_to_the_even_one(self):
        half_step = 0x3CA0000000000000
        self.assertEqual(doubles.add(self.ONE, half_step), self.ONE)
        self.assertEqual(doubles.add(self.ONE + 1, half_step), self.ONE + 2)
        self.assertEqual(doubles.add(self.ONE, half_step + 1), self.ONE + 1)
        self.assertEqual(doubles.subtract(opposite(self.ONE + 1), half_step), SIGN | (self.ONE + 2))

    def test_ties_near_zero_go_to_the_even_one(self):
        half = 0x3FE0000000000000
        self.assertEqual(doubles.multiply(1, half), 0)
        self.assertEqual(doubles.multiply(SIGN | 1, half), SIGN)
        self.assertEqual(doubles.multiply(3, half), 2)
        self.assertEqual(doubles.multiply(5, half), 2)
        self.assertEqual(doubles.multiply(1, half + 1), 1)
        self.assertEqual(doubles.divide(1, self.TWO), 0)
        self.assertEqual(doubles.divide(3, self.TWO), 2)

    def test_near_zero_nothing_is_cut_off(self):
        self.assertEqual(doubles.subtract(SMALLEST_NORMAL, 1), LARGEST_SUBNORMAL)
        self.assertEqual(doubles.add(LARGEST_SUBNORMAL, 1), SMALLEST_NORMAL)
        self.assertEqual(doubles.divide(SMALLEST_NORMAL, self.TWO), 0x0008000000000000)
        self.assertEqual(doubles.multiply(1, self.ONE), 1)
        self.assertEqual(doubles.divide(1, 1), self.ONE)

    def test_rounding_up_to_the_next_power_of_two(self):
        half_step = 0x3CA0000000000000
        self.assertEqual(doubles.add(self.TWO - 1, half_step), self.TWO)
        self.assertEqual(doubles.multiply(0x001FFFFFFFFFFFFF, 0x3FE0000000000000), 0x0010000000000000)

    def test_zeros_and_their_signs(self):
        minus = self.MINUS_ZERO
        self.assertEqual(doubles.add(0, minus), 0)
        self.assertEqual(doubles.add(minus, 0), 0)
        self.assertEqual(doubles.add(minus, minus), minus)
        self.assertEqual(doubles.subtract(0, 0), 0)
        self.assertEqual(doubles.subtract(minus, 0), minus)
        self.assertEqual(doubles.subtract(minus, minus), 0)
        self.assertEqual(doubles.multiply(minus, self.ONE), minus)
        self.assertEqual(doubles.multiply(minus, self.MINUS_ONE), 0)
        self.assertEqual(doubles.divide(0, self.MINUS_ONE), minus)
        self.assertEqual(doubles.divide(minus, self.MINUS_ONE), 0)

    def test_two_opposite_ones_make_plus_zero(self):
        for x in (0, 1, LARGEST_SUBNORMAL, SMALLEST_NORMAL, self.ONE, 0x3FB999999999999A, LARGEST):
            self.assertEqual(doubles.add(x, opposite(x)), 0)
            self.assertEqual(doubles.add(opposite(x), x), 0)
            self.assertEqual(doubles.subtract(x, x), 0)

    def test_opposite(self):
        self.assertEqual(doubles.opposite(0), self.MINUS_ZERO)
        self.assertEqual(doubles.opposite(self.MINUS_ZERO), 0)
        self.assertEqual(doubles.opposite(self.ONE), self.MINUS_ONE)

    def test_too_large_fails(self):
        half_step_of_largest = 0x7C90000000000000
        self.assertEqual(doubles.add(LARGEST, half_step_of_largest - 1), LARGEST)
        for sign in (0, SIGN):
            self.assert_fails(doubles.add, sign | LARGEST, sign | half_step_of_largest)
            self.assert_fails(doubles.add, sign | LARGEST, sign | LARGEST)
            self.assert_fails(doubles.subtract, sign | LARGEST, opposite(sign | LARGEST))
            self.assert_fails(doubles.multiply, sign | LARGEST, self.ONE + 1)
            self.assert_fails(doubles.divide, sign | LARGEST, self.ONE - 1)
            self.assert_fails(doubles.divide, sign | self.ONE, 1)

    def test_quotients_by_zero_fail(self):
        for dividend in (0, SIGN, 1, self.ONE, self.MINUS_ONE, LARGEST):
            self.assert_fails(doubles.divide, dividend, 0)
            self.assert_fails(doubles.divide, dividend, self.MINUS_ZERO)

    def assert_fails(self, operation, x, y):
        with self.assertRaises(doubles.NotFinite):
            operation(x, y)


class IsFinite(unittest.TestCase):
    def test_infinities_and_nans_are_not(self):
        for x in NOT_FINITE:
            self.assertFalse(doubles.is_finite(x))

    def test_all_others_are(self):
        for magnitude in MAGNITUDES:
            self.assertTrue(doubles.is_finite(magnitude))
            self.assertTrue(doubles.is_finite(SIGN | magnitude))

    def test_constants_are_what_their_names_say(self):
        constants = (doubles.ZERO, doubles.HALF, doubles.ONE, doubles.ONE_AND_A_HALF, doubles.THREE)
        self.assertEqual([value(x) for x in constants], [0.0, 0.5, 1.0, 1.5, 3.0])


def opposite(x):
    return x ^ SIGN


if __name__ == "__main__":
    unittest.main()
