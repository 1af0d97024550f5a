import unittest

from cellflow.cells import Grid
from cellflow.flow import WEIGHTS
from tests import helper
from tests.helper import (LARGEST, LEAST, MOST, NOT_FINITE, OMEGA, ONE, SIGN, SMALLEST, begin, bits, codes, set_flow,
                          wall)

WRONG_SIDES = (0, 257, -1, LEAST, MOST)


def at_rest(rho, ux, uy):
    return tuple(bits(share) for share in helper.shares_at_rest(rho, ux, uy))


def state(grid):
    return (grid.cols, grid.rows, grid.omega, list(grid.walls), list(grid.shares))


def grid_of(cols, rows):
    grid = Grid()
    assert grid.begin(cols, rows, OMEGA) == 0
    return grid


class Begin(unittest.TestCase):
    def test_sides_from_1_to_256(self):
        for cols, rows in ((1, 1), (256, 1), (1, 256), (256, 256), (2, 255), (17, 4)):
            self.assertEqual(codes(begin(cols, rows)), [0])

    def test_any_finite_omega(self):
        for omega in (0, SIGN, SMALLEST, ONE, SIGN | ONE, LARGEST, SIGN | LARGEST):
            self.assertEqual(codes(begin(3, 3, omega)), [0])

    def test_wrong_sides(self):
        for side in WRONG_SIDES:
            self.assertEqual(codes(begin(4, 4), begin(side, 4), begin(4, side), begin(side, side)), [0, -2, -2, -2])

    def test_omega_not_finite(self):
        for omega in NOT_FINITE:
            self.assertEqual(codes(begin(4, 4), begin(4, 4, omega)), [0, -3])

    def test_sides_are_told_ahead_of_omega(self):
        for omega in NOT_FINITE:
            self.assertEqual(codes(begin(4, 4), begin(0, 4, omega), begin(4, 257, omega)), [0, -2, -2])

    def test_all_cells_rest_and_none_is_a_wall(self):
        for cols, rows in ((1, 1), (5, 3), (256, 256)):
            grid = grid_of(cols, rows)
            self.assertEqual(grid.walls, [0] * (cols * rows))
            self.assertEqual(grid.shares, [at_rest(1.0, 0.0, 0.0)] * (cols * rows))
            self.assertEqual(grid.shares[0], WEIGHTS)
            self.assertEqual(grid.omega, OMEGA)

    def test_begin_again_makes_a_new_grid(self):
        grid = grid_of(3, 2)
        grid.wall(1, 1, 1)
        grid.set_flow(2, 0, ONE, ONE, 0)
        self.assertEqual(grid.begin(2, 4, ONE), 0)
        self.assertEqual(state(grid), (2, 4, ONE, [0] * 8, [WEIGHTS] * 8))

    def test_begin_again_moves_the_edges(self):
        self.assertEqual(
            codes(begin(3, 2), wall(2, 1, 1), begin(2, 4), wall(2, 1, 1), wall(1, 3, 1), set_flow(1, 3)),
            [0, 0, 0, -2, 0, 0])

    def test_a_refused_begin_leaves_the_grid(self):
        for refused, code in (((0, 9, ONE), -2), ((9, 257, ONE), -2), ((9, 9, NOT_FINITE[0]), -3)):
            grid = grid_of(3, 2)
            grid.wall(1, 1, 1)
            grid.set_flow(2, 0, ONE, ONE, 0)
            before = state(grid)
            self.assertEqual(grid.begin(*refused), code)
            self.assertEqual(state(grid), before)

    def test_behind_a_refused_begin_the_cells_are_those_there_were(self):
        self.assertEqual(
            codes(begin(3, 2), begin(0, 2), begin(9, 9, NOT_FINITE[0]), wall(2, 1, 1), wall(3, 1, 1), set_flow(2, 2)),
            [0, -2, -3, 0, -2, -2])


class Wall(unittest.TestCase):
    def test_on_and_off(self):
        grid = grid_of(3, 2)
        self.assertEqual(grid.wall(2, 1, 1), 0)
        self.assertEqual(grid.walls, [0, 0, 0, 0, 0, 1])
        self.assertEqual(grid.wall(2, 1, 1), 0)
        self.assertEqual(grid.wall(1, 0, 1), 0)
        self.assertEqual(grid.walls, [0, 1, 0, 0, 0, 1])
        self.assertEqual(grid.wall(2, 1, 0), 0)
        self.assertEqual(grid.wall(0, 0, 0), 0)
        self.assertEqual(grid.walls, [0, 1, 0, 0, 0, 0])

    def test_answers(self):
        self.assertEqual(codes(begin(3, 2), wall(0, 0, 1), wall(2, 1, 1), wall(2, 1, 0), wall(1, 1, 0)), [0] * 5)

    def test_outside(self):
        for x, y in ((-1, 0), (3, 0), (0, -1), (0, 2), (3, 2), (LEAST, 0), (MOST, 0), (0, LEAST), (0, MOST)):
            self.assertEqual(codes(begin(3, 2), wall(x, y, 1), wall(x, y, 0)), [0, -2, -2])

    def test_on_is_0_or_1(self):
        for on in (-1, 2, LEAST, MOST):
            self.assertEqual(codes(begin(3, 2), wall(1, 1, on), wall(-1, 1, on)), [0, -2, -2])

    def test_a_refusal_changes_nothing(self):
        for refused in ((-1, 1, 1), (3, 0, 1), (0, 2, 1), (1, 1, 2), (0, 0, -1)):
            grid = grid_of(3, 2)
            grid.wall(1, 1, 1)
            before = state(grid)
            self.assertEqual(grid.wall(*refused), -2)
            self.assertEqual(state(grid), before)

    def test_shares_stay(self):
        grid = grid_of(3, 2)
        grid.set_flow(1, 1, ONE, bits(0.1), bits(-0.2))
        shares = list(grid.shares)
        for on in (1, 0):
            self.assertEqual(grid.wall(1, 1, on), 0)
            self.assertEqual(grid.shares, shares)


class SetFlow(unittest.TestCase):
    def test_ordinary_flows(self):
        for rho, ux, uy in ((1.0, 0.1, -0.2), (0.9, 0.0, -0.0), (-3.0, 0.3, 0.3), (0.0, 0.5, 0.5), (5e-324, -1.0, 2.0)):
            given = [bits(number) for number in (rho, ux, uy)]
            self.assertEqual(codes(begin(3, 2), set_flow(2, 1, *given), set_flow(0, 0, *given)), [0, 0, 0])
            grid = grid_of(3, 2)
            self.assertEqual(grid.set_flow(2, 1, *given), 0)
            self.assertEqual(grid.shares, [WEIGHTS] * 5 + [at_rest(rho, ux, uy)])

    def test_cells_lie_apart(self):
        grid = grid_of(3, 2)
        for y in range(2):
            for x in range(3):
                grid.set_flow(x, y, bits(1.0 + x), 0, bits(0.1 * y))
        for y in range(2):
            for x in range(3):
                self.assertEqual(grid.shares[y * 3 + x], at_rest(1.0 + x, 0.0, 0.1 * y))

    def test_on_a_walls_cell(self):
        self.assertEqual(codes(begin(3, 2), wall(1, 1, 1), set_flow(1, 1)), [0, 0, 0])
        grid = grid_of(3, 2)
        grid.wall(1, 1, 1)
        grid.set_flow(1, 1, ONE, bits(0.1), bits(-0.2))
        self.assertEqual(grid.walls, [0, 0, 0, 0, 1, 0])
        self.assertEqual(grid.shares[4], at_rest(1.0, 0.1, -0.2))

    def test_outside(self):
        for x, y in ((-1, 0), (3, 0), (0, -1), (0, 2), (3, 2), (LEAST, 0), (MOST, 0), (0, LEAST), (0, MOST)):
            self.assertEqual(codes(begin(3, 2), set_flow(x, y)), [0, -2])

    def test_not_finite(self):
        for wrong in NOT_FINITE:
            self.assertEqual(
                codes(begin(3, 2), set_flow(1, 1, wrong), set_flow(1, 1, ONE, wrong), set_flow(1, 1, ONE, 0, wrong)),
                [0, -3, -3, -3])

    def test_fails(self):
        for rho, ux, uy in ((1.0, 1e200, 0.0), (1.0, 0.0, -1e200), (1e308, 2.0, 0.0), (-1e308, 0.0, 9.0)):
            self.assertEqual(codes(begin(3, 2), set_flow(1, 1, bits(rho), bits(ux), bits(uy))), [0, -4])

    def test_only_the_last_product_fails(self):
        # The share itself overflows: 1/9 of rho is finite, and so is what it is multiplied by.
        self.assertEqual(codes(begin(1, 1), set_flow(0, 0, LARGEST, bits(1.4), 0)), [0, -4])
        self.assertEqual(codes(begin(1, 1), set_flow(0, 0, LARGEST, bits(0.5), 0)), [0, 0])

    def test_what_is_told_first_is_answered(self):
        huge = bits(1e200)
        for wrong in NOT_FINITE:
            self.assertEqual(
                codes(begin(3, 2), set_flow(3, 1, wrong), set_flow(1, 2, ONE, huge), set_flow(-1, 0, wrong, huge, huge),
                      set_flow(1, 1, wrong, huge, huge), set_flow(1, 1, ONE, huge, wrong)),
                [0, -2, -2, -2, -3, -3])

    def test_a_refusal_changes_nothing(self):
        refusals = (
            ((3, 1, ONE, 0, 0), -2),
            ((1, 1, NOT_FINITE[0], 0, 0), -3),
            ((1, 1, ONE, NOT_FINITE[1], 0), -3),
            ((1, 1, ONE, 0, NOT_FINITE[2]), -3),
            ((1, 1, ONE, bits(1e200), 0), -4),
            ((1, 1, LARGEST, bits(1.4), 0), -4),
        )
        for given, code in refusals:
            grid = grid_of(3, 2)
            grid.wall(0, 1, 1)
            grid.set_flow(1, 1, ONE, bits(0.1), bits(-0.2))
            before = state(grid)
            self.assertEqual(grid.set_flow(*given), code)
            self.assertEqual(state(grid), before)


if __name__ == "__main__":
    unittest.main()
