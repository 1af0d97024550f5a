"""The grid that a line's calls are about."""

from cellflow.doubles import NotFinite, ONE, ZERO, is_finite
from cellflow.flow import shares_at_rest

DONE = 0
OUT_OF_RANGE = -2
NOT_FINITE = -3
FAILED = -4

MOST_SIDE = 256


def is_side(count):
    return 1 <= count <= MOST_SIDE


# Cells lie row by row. A cell's shares are one tuple that is only ever replaced whole, so that cells may have it in
# common.
class Grid:
    # Before the first begin there is no grid, and so no cell.
    def __init__(self):
        self.cols = 0
        self.rows = 0
        self.omega = ZERO
        self.walls = []
        self.shares = []

    def has_cell(self, x, y):
        return 0 <= x < self.cols and 0 <= y < self.rows

    def place(self, x, y):
        return y * self.cols + x

    def begin(self, cols, rows, omega):
        if not is_side(cols) or not is_side(rows):
            return OUT_OF_RANGE
        if not is_finite(omega):
            return NOT_FINITE
        self.cols = cols
        self.rows = rows
        self.omega = omega
        self.walls = [0] * (cols * rows)
        self.shares = [shares_at_rest(ONE, ZERO, ZERO)] * (cols * rows)
        return DONE

    def wall(self, x, y, on):
        if not self.has_cell(x, y) or on not in (0, 1):
            return OUT_OF_RANGE
        self.walls[self.place(x, y)] = on
        return DONE

    def set_flow(self, x, y, rho, ux, uy):
        if not self.has_cell(x, y):
            return OUT_OF_RANGE
        if not is_finite(rho) or not is_finite(ux) or not is_finite(uy):
            return NOT_FINITE
        try:
            shares = shares_at_rest(rho, ux, uy)
        except NotFinite:
            return FAILED
        self.shares[self.place(x, y)] = shares
        return DONE
