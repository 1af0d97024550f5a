import math
import unittest
from itertools import islice

from cellflow.doubles import NotFinite, divide
from cellflow.flow import WEIGHTS, shares_at_rest
from tests import floats
from tests.floats import LARGEST, SIGN, bits, pseudo_random_bits, value

SPEEDS = (0.0, -0.0, 0.1, -0.1, 1 / 3, 0.3, -0.25, 1.0, -1.5, 7.0, 1e-5, -1e-160, 5e-324, -5e-324, 1e-310, 1e100)
DENSITIES = (0.0, -0.0, 1.0, 0.9, -2.5, 1e-300, -1e-310, 5e-324, 1e100)


class Weights(unittest.TestCase):
    def test_they_are_quotients(self):
        one, four, nine, thirty_six = bits(1.0), bits(4.0), bits(9.0), bits(36.0)
        straight = divide(one, nine)
        slanted = divide(one, thirty_six)
        self.assertEqual(WEIGHTS, (divide(four, nine),) + (straight,) * 4 + (slanted,) * 4)
        self.assertEqual([value(x) for x in WEIGHTS], [4 / 9] + [1 / 9] * 4 + [1 / 36] * 4)


class SharesAtRest(unittest.TestCase):
    def check(self, rho, ux, uy):
        want = floats.shares_at_rest(rho, ux, uy)
        if not all(math.isfinite(share) for share in want):
            with self.assertRaises(NotFinite):
                shares_at_rest(bits(rho), bits(ux), bits(uy))
            return
        got = shares_at_rest(bits(rho), bits(ux), bits(uy))
        self.assertEqual(got, tuple(bits(share) for share in want), (rho, ux, uy))

    def test_no_flow_leaves_the_weights(self):
        self.assertEqual(shares_at_rest(bits(1.0), 0, 0), WEIGHTS)

    def test_written_out(self):
        # ux 1, uy 0: u is 1.5; c is 3 rightward, so that 1 + 3 + 4.5 - 1.5 is 7.
        got = shares_at_rest(bits(36.0), bits(1.0), 0)
        self.assertEqual([round(value(share), 9) for share in got], [-8, 28, -2, 4, -2, 7, 1, 1, 7])

    def test_edges_bit_by_bit(self):
        for rho in DENSITIES:
            for ux in SPEEDS:
                for uy in SPEEDS:
                    self.check(rho, ux, uy)

    def test_ordinary_flows_bit_by_bit(self):
        # Enough of them, with full mantissas, that another order of the sums and products shows.
        words = pseudo_random_bits(11)
        for first, second, third in islice(zip(words, words, words), 400):
            self.check(0.5 + first / 2 ** 64, second / 2 ** 64 - 0.5, third / 2 ** 64 - 0.5)

    def test_each_number_on_the_way_may_fail(self):
        one = bits(1.0)
        failing = (
            (one, bits(1e200), 0),
            (one, 0, bits(1e200)),
            (one, bits(1.2e154), bits(1.2e154)),
            (one, bits(1.3e154), 0),
            (one, bits(8e153), bits(8e153)),
            (one, bits(7e153), 0),
            (one, 0, bits(-7e153)),
            (one, bits(5e153), bits(5e153)),
            (LARGEST, bits(2.0), 0),
            (SIGN | LARGEST, 0, bits(-2.0)),
            (0, LARGEST, LARGEST),
        )
        for rho, ux, uy in failing:
            with self.assertRaises(NotFinite):
                shares_at_rest(rho, ux, uy)

    def test_half_of_c_comes_ahead_of_the_other_c(self):
        # c c is too large here, (0.5 c) c is not.
        self.assertEqual(len(shares_at_rest(bits(1.0), bits(5e153), 0)), 9)
        self.check(1.0, 5e153, 0.0)

    def test_the_largest_density_at_rest(self):
        self.assertEqual(len(shares_at_rest(LARGEST, 0, 0)), 9)


if __name__ == "__main__":
    unittest.main()
