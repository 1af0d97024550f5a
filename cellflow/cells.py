"""The grid that a line's calls are about."""

from cellflow.doubles import NotFinite, ONE, ZERO, add, is_finite
from cellflow.flow import flow_of, shares_at_rest
from cellflow.steps import all_sources, behind_steps

DONE = 0
OUT_OF_RANGE = -2
NOT_FINITE = -3
FAILED = -4

MOST_SIDE = 256
MOST_STEPS = 1000000


def is_side(count):
    return 1 <= count <= MOST_SIDE


# Raises NotFinite where a sum on the way is not finite.
def mass_of(cells, walls):
    total = ZERO
    for shares, is_wall in zip(cells, walls):
        if is_wall == 0:
            for share in shares:
                total = add(total, share)
    return total


# Cells lie row by row. A cell's shares are one tuple that is only ever replaced whole, so that cells may have it in
# common.
class Grid:
    # Before the first begin there is no grid, and so no cell.
    def __init__(self):
        self.cols = 0
        self.rows = 0
        self.omega = ZERO
        self.walls = []
        self.shares = []

    def has_cell(self, x, y):
        return 0 <= x < self.cols and 0 <= y < self.rows

    def place(self, x, y):
        return y * self.cols + x

    def begin(self, cols, rows, omega):
        if not is_side(cols) or not is_side(rows):
            return OUT_OF_RANGE
        if not is_finite(omega):
            return NOT_FINITE
        self.cols = cols
        self.rows = rows
        self.omega = omega
        self.walls = [0] * (cols * rows)
        self.shares = [shares_at_rest(ONE, ZERO, ZERO)] * (cols * rows)
        return DONE

    def wall(self, x, y, on):
        if not self.has_cell(x, y) or on not in (0, 1):
            return OUT_OF_RANGE
        self.walls[self.place(x, y)] = on
        return DONE

    def set_flow(self, x, y, rho, ux, uy):
        if not self.has_cell(x, y):
            return OUT_OF_RANGE
        if not is_finite(rho) or not is_finite(ux) or not is_finite(uy):
            return NOT_FINITE
        try:
            shares = shares_at_rest(rho, ux, uy)
        except NotFinite:
            return FAILED
        self.shares[self.place(x, y)] = shares
        return DONE

    def step(self, count):
        if not 0 <= count <= MOST_STEPS:
            return OUT_OF_RANGE
        sources = all_sources(self.cols, self.rows, self.walls)
        try:
            shares = behind_steps(self.shares, self.walls, self.omega, sources, count)
        except NotFinite:
            return FAILED
        self.shares = shares
        return DONE

    def get_flow(self, x, y):
        if not self.has_cell(x, y):
            return [OUT_OF_RANGE]
        try:
            flow = flow_of(self.shares[self.place(x, y)])
        except NotFinite:
            return [FAILED]
        return [DONE, flow[0], flow[1], flow[2]]

    def mass(self):
        try:
            total = mass_of(self.shares, self.walls)
        except NotFinite:
            return [FAILED]
        return [DONE, total]
