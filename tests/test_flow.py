import math
import unittest
from itertools import islice

from cellflow.doubles import NotFinite, divide
from cellflow.flow import WEIGHTS, flow_of, shares_at_rest
from tests import helper
from tests.helper import LARGEST, LARGEST_SUBNORMAL, SIGN, SMALLEST, Fails, bits, pseudo_random_bits, value

SPEEDS = (0.0, -0.0, 0.1, -0.1, 1 / 3, 0.3, -0.25, 1.0, -1.5, 7.0, 1e-5, -1e-160, 5e-324, -5e-324, 1e-310, 1e100)
DENSITIES = (0.0, -0.0, 1.0, 0.9, -2.5, 1e-300, -1e-310, 5e-324, 1e100)


class Weights(unittest.TestCase):
    def test_they_are_quotients(self):
        one, four, nine, thirty_six = bits(1.0), bits(4.0), bits(9.0), bits(36.0)
        straight = divide(one, nine)
        slanted = divide(one, thirty_six)
        self.assertEqual(WEIGHTS, (divide(four, nine),) + (straight,) * 4 + (slanted,) * 4)
        self.assertEqual([value(x) for x in WEIGHTS], [4 / 9] + [1 / 9] * 4 + [1 / 36] * 4)


class SharesAtRest(unittest.TestCase):
    def check(self, rho, ux, uy):
        want = helper.shares_at_rest(rho, ux, uy)
        if not all(math.isfinite(share) for share in want):
            with self.assertRaises(NotFinite):
                shares_at_rest(bits(rho), bits(ux), bits(uy))
            return
        got = shares_at_rest(bits(rho), bits(ux), bits(uy))
        self.assertEqual(got, tuple(bits(share) for share in want), (rho, ux, uy))

    def test_no_flow_leaves_the_weights(self):
        self.assertEqual(shares_at_rest(bits(1.0), 0, 0), WEIGHTS)

    def test_written_out(self):
        # ux 1, uy 0: u is 1.5; c is 3 rightward, so that 1 + 3 + 4.5 - 1.5 is 7.
        got = shares_at_rest(bits(36.0), bits(1.0), 0)
        self.assertEqual([round(value(share), 9) for share in got], [-8, 28, -2, 4, -2, 7, 1, 1, 7])

    def test_edges_bit_by_bit(self):
        for rho in DENSITIES:
            for ux in SPEEDS:
                for uy in SPEEDS:
                    self.check(rho, ux, uy)

    def test_ordinary_flows_bit_by_bit(self):
        # Enough of them, with full mantissas, that another order of the sums and products shows.
        words = pseudo_random_bits(11)
        for first, second, third in islice(zip(words, words, words), 400):
            self.check(0.5 + first / 2 ** 64, second / 2 ** 64 - 0.5, third / 2 ** 64 - 0.5)

    def test_each_number_on_the_way_may_fail(self):
        one = bits(1.0)
        failing = (
            (one, bits(1e200), 0),
            (one, 0, bits(1e200)),
            (one, bits(1.2e154), bits(1.2e154)),
            (one, bits(1.3e154), 0),
            (one, bits(8e153), bits(8e153)),
            (one, bits(7e153), 0),
            (one, 0, bits(-7e153)),
            (one, bits(5e153), bits(5e153)),
            (LARGEST, bits(2.0), 0),
            (SIGN | LARGEST, 0, bits(-2.0)),
            (0, LARGEST, LARGEST),
        )
        for rho, ux, uy in failing:
            with self.assertRaises(NotFinite):
                shares_at_rest(rho, ux, uy)

    def test_half_of_c_comes_ahead_of_the_other_c(self):
        # c c is too large here, (0.5 c) c is not.
        self.assertEqual(len(shares_at_rest(bits(1.0), bits(5e153), 0)), 9)
        self.check(1.0, 5e153, 0.0)

    def test_the_largest_density_at_rest(self):
        self.assertEqual(len(shares_at_rest(LARGEST, 0, 0)), 9)


class FlowOf(unittest.TestCase):
    def check(self, shares):
        of_bits = tuple(bits(share) for share in shares)
        try:
            want = tuple(bits(number) for number in helper.flow(shares))
        except Fails:
            with self.assertRaises(NotFinite):
                flow_of(of_bits)
            return
        self.assertEqual(flow_of(of_bits), want, shares)

    def check_fails(self, *shares):
        with self.assertRaises(Fails):
            helper.flow(shares)
        self.check(shares)

    def test_each_share_counts_its_own_way(self):
        # rho is 2, so that a share of 1 by itself shows as a half.
        halves = ((0, 0), (1, 0), (0, 1), (-1, 0), (0, -1), (1, 1), (-1, 1), (-1, -1), (1, -1))
        for way, (right, down) in enumerate(halves):
            shares = [0.0] * 9
            shares[0] = 1.0
            shares[way] += 1.0
            flow = flow_of(tuple(bits(share) for share in shares))
            self.assertEqual([value(number) for number in flow], [2.0, right / 2, down / 2])

    def test_written_out(self):
        one = bits(1.0)
        self.assertEqual(flow_of((bits(8.0), one, one, one, one, one, one, one, one)), (bits(16.0), 0, 0))
        shares = tuple(bits(float(number)) for number in (1, 2, 3, 4, 5, 6, 7, 8, 9))
        self.assertEqual(flow_of(shares), (bits(45.0), bits(-2 / 45), bits(-6 / 45)))

    def test_ordinary_shares_bit_by_bit(self):
        # Enough of them, with full mantissas and far from rest, that another order of the sums shows.
        words = pseudo_random_bits(12)
        for _ in range(600):
            self.check([word / 2 ** 64 - 0.3 for word in islice(words, 9)])

    def test_shares_of_many_sizes_bit_by_bit(self):
        words = pseudo_random_bits(13)
        for spread in (4, 40, 400, 1022):
            for _ in range(200):
                drawn = [value((word & (SIGN | LARGEST_SUBNORMAL)) | 1023 << 52) for word in islice(words, 9)]
                powers = [word % (2 * spread) - spread for word in islice(words, 9)]
                self.check([math.ldexp(share, power) for share, power in zip(drawn, powers)])

    def test_shares_near_zero_bit_by_bit(self):
        words = pseudo_random_bits(14)
        for _ in range(200):
            self.check([value(word & (SIGN | LARGEST_SUBNORMAL)) for word in islice(words, 9)])
            self.check([value(word & (SIGN | 7)) for word in islice(words, 9)])

    def test_signs_of_zero(self):
        for first in (1.0, -1.0):
            for zeros in range(256):
                self.check([first] + [-0.0 if zeros >> way & 1 else 0.0 for way in range(8)])

    def test_a_quotient_by_zero_fails(self):
        self.check_fails(*[0.0] * 9)
        self.check_fails(*[-0.0] * 9)
        self.check_fails(1.0, -1.0, 0.0, 0.0, 0.0, 0.0, 0.0, 0.0, 0.0)
        self.check_fails(0.0, 1.0, 1.0, -1.0, -1.0, 2.0, -2.0, 3.0, -3.0)

    def test_sums_that_are_not_finite_fail(self):
        huge = value(LARGEST)
        # Only on the way to rho, which itself would be finite.
        self.check_fails(huge, huge, -huge, 0.0, 0.0, 0.0, 0.0, 0.0, 0.0)
        self.check_fails(-huge, 0.0, 0.0, 0.0, 0.0, 0.0, 0.0, -huge, huge)
        # Only on the way to ux, then only on the way to uy.
        self.check_fails(1.0, huge, 0.0, -huge, 0.0, 0.0, 0.0, 0.0, 0.0)
        self.check_fails(1.0, 0.0, huge, 0.0, -huge, 0.0, 0.0, 0.0, 0.0)

    def test_quotients_that_are_not_finite_fail(self):
        small = value(SMALLEST)
        self.check_fails(0.0, 1.0, 0.0, -1.0, 0.0, 0.0, 0.0, 0.0, small)
        self.check_fails(0.0, 0.0, 1.0, 0.0, -1.0, 0.0, 0.0, 0.0, small)
        self.check((0.0, small, 0.0, 0.0, 0.0, 0.0, 0.0, 0.0, 0.0))


if __name__ == "__main__":
    unittest.main()
