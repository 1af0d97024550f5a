import unittest

from tests.helper import (LARGEST, LARGEST_SUBNORMAL, LEAST, MOST, OMEGA, ONE, SIGN, SMALLEST_NORMAL, Chance, Checked,
                          begin, bits, get, get_all, set_flow, set_values, step, told, wall)

# The nine weights added up one after another come out above 1, by as little as a double can be.
RHO_OF_WEIGHTS = 0x3FF0000000000001

OUTSIDE = ((-1, 0), (3, 0), (0, -1), (0, 2), (3, 2), (-1, -1), (LEAST, 0), (MOST, 0), (0, LEAST), (0, MOST))


class Get(Checked):
    def test_behind_begin(self):
        for cols, rows in ((1, 1), (3, 2), (256, 1), (1, 256)):
            calls = (begin(cols, rows), get(0, 0), get(cols - 1, rows - 1))
            self.assertEqual(told(*calls), [[0], [0, RHO_OF_WEIGHTS, 0, 0], [0, RHO_OF_WEIGHTS, 0, 0]])
            self.check(*calls)

    def test_behind_an_ordinary_set(self):
        chance = Chance(21)
        for _ in range(150):
            given = chance.between(0.2, 3.0), chance.between(-0.6, 0.6), chance.between(-0.6, 0.6)
            self.check(begin(1, 1), set_values(0, 0, *given), get(0, 0))

    def test_written_out(self):
        # The shares of rho 36, ux 1, uy 0 are -8, 28, -2, 4, -2, 7, 1, 1, 7, up to their roundings.
        answer = told(begin(1, 1), set_values(0, 0, 36.0, 1.0, 0.0), get(0, 0))[-1]
        self.assertEqual(answer, [0, bits(36.0), bits(1.0), 0])

    def test_behind_a_set_near_zero(self):
        small = (SMALLEST_NORMAL, LARGEST_SUBNORMAL, 0x000123456789ABCD, 1000, 37)
        chance = Chance(22)
        for rho in small:
            for ux in (0, SIGN, 1, SIGN | 1, bits(0.1), bits(-1e-310), bits(2.0)):
                uy = chance.one_of((0, SIGN, 1, bits(0.3), bits(-0.7), bits(1e-320)))
                self.check(begin(1, 1), set_flow(0, 0, rho, ux, uy), get(0, 0))
                self.check(begin(1, 1), set_flow(0, 0, SIGN | rho, uy, ux), get(0, 0))
                self.check(begin(1, 1), set_flow(0, 0, ONE, ux, rho), get(0, 0))

    def test_signs_of_zero(self):
        for rho in (ONE, SIGN | ONE):
            for ux in (0, SIGN):
                for uy in (0, SIGN):
                    self.check(begin(1, 1), set_flow(0, 0, rho, ux, uy), get(0, 0))

    def test_behind_steps(self):
        for cols, rows in ((1, 1), (2, 2), (3, 2), (4, 3)):
            chance = Chance(cols * 10 + rows)
            calls = [begin(cols, rows)]
            for y in range(rows):
                for x in range(cols):
                    calls.append(set_values(x, y, *[chance.between(low, high) for low, high in
                                                    ((0.5, 1.5), (-0.2, 0.2), (-0.2, 0.2))]))
            for n in (1, 1, 5):
                calls.append(step(n))
                calls.extend(get_all(cols, rows))
            want = self.check(*calls)
            self.assertNotIn([-4], want)

    def test_cells_lie_apart(self):
        sets = [set_values(x, y, 1.0 + x, 0.0, 0.1 * y) for y in range(2) for x in range(3)]
        want = self.check(begin(3, 2), *sets, *get_all(3, 2))[-6:]
        self.assertEqual(len({tuple(answer) for answer in want}), 6)

    def test_a_walls_cell_is_got_like_any_other(self):
        before = told(begin(3, 2), set_flow(1, 1), get(1, 1))[-1]
        self.assertEqual(len(before), 4)
        self.assertEqual(told(begin(3, 2), set_flow(1, 1), wall(1, 1), get(1, 1))[-1], before)
        self.assertEqual(told(begin(3, 2), wall(1, 1), set_flow(1, 1), get(1, 1))[-1], before)
        self.assertEqual(told(begin(3, 2), wall(1, 1), get(1, 1))[-1], [0, RHO_OF_WEIGHTS, 0, 0])
        self.check(begin(1, 1), set_values(0, 0, 0.0), wall(0, 0), get(0, 0))

    def test_outside(self):
        for x, y in OUTSIDE:
            self.assertEqual(told(begin(3, 2), get(x, y)), [[0], [-2]])

    def test_a_quotient_by_zero_fails(self):
        for rho in (0, SIGN, 1, SIGN | 1):
            for ux in (0, SIGN, bits(0.1)):
                calls = (begin(2, 1), set_flow(1, 0, rho, ux, ux), get(1, 0), get(0, 0))
                self.assertEqual(told(*calls), [[0], [0], [-4], [0, RHO_OF_WEIGHTS, 0, 0]])
                self.check(*calls)

    def test_outside_is_told_ahead_of_failing(self):
        self.assertEqual(told(begin(1, 1), set_values(0, 0, 0.0), get(1, 0), get(0, 0))[2:], [[-2], [-4]])

    def test_a_sum_that_is_not_finite_fails(self):
        # rho added up is 19/18 of itself ahead of the last share; the differences of ux add up to 4/3 of rho.
        for rho in (1.75e308, -1.75e308, 1.6e308, -1.6e308):
            calls = (begin(1, 1), set_values(0, 0, rho, 1.0, 1.0), get(0, 0))
            self.assertEqual(self.check(*calls), [[0], [0], [-4]])
        self.assertEqual(len(self.check(begin(1, 1), set_values(0, 0, 1.3e308, 1.0, 1.0), get(0, 0))[-1]), 4)
        self.check(begin(1, 1), set_flow(0, 0, LARGEST, 0, 0), get(0, 0))

    def test_a_quotient_that_is_not_finite_fails(self):
        # With omega 0 shares only move: in the middle the large ones cancel in rho, but not in ux, and not in uy.
        small = [set_values(x, y, 1e-10) for y in range(3) for x in range(3)]
        for left, right in (((0, 1), (2, 1)), ((1, 0), (1, 2))):
            calls = (begin(3, 3, 0), *small, set_values(*left, 9e300), set_values(*right, -9e300), step(), get(1, 1))
            want = self.check(*calls)
            self.assertEqual(want[-2:], [[0], [-4]])

    def test_a_sum_that_cancels_to_zero_fails(self):
        calls = (begin(3, 1, 0), set_values(0, 0, 9e300), set_values(2, 0, -9e300), step(), get(1, 0))
        self.assertEqual(self.check(*calls)[-2:], [[0], [-4]])

    def test_get_changes_nothing(self):
        ahead = (begin(3, 2, OMEGA), set_flow(1, 1), wall(0, 1), set_values(2, 0, 0.0), wall(2, 0))
        behind = (step(3), *get_all(3, 2))
        gets = (get(1, 1), get(2, 0), get(3, 0), get(0, 1))
        self.assertEqual(told(*ahead, *gets, *behind)[-7:], told(*ahead, *behind)[-7:])


if __name__ == "__main__":
    unittest.main()
