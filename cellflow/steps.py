"""Steps: all cells that are no walls ease toward rest, then all shares go on at once."""

from cellflow.doubles import multiply, subtract
from cellflow.flow import flow_of, shares_at_rest

WAY_COUNT = 9
# How far each way goes, and its way back.
RIGHTWARD = (0, 1, 0, -1, 0, 1, -1, -1, 1)
DOWNWARD = (0, 0, 1, 0, -1, 1, 1, -1, -1)
WAYS_BACK = (0, 3, 4, 1, 2, 7, 8, 5, 6)


def eased_cell(shares, omega):
    flow = flow_of(shares)
    rest = shares_at_rest(flow[0], flow[1], flow[2])
    return tuple([subtract(f, multiply(omega, subtract(f, r))) for f, r in zip(shares, rest)])


# Cells with the same shares ease alike. On a large grid most are alike, so each kind is worked out only once.
def eased_cells(cells, walls, omega):
    known = {}
    eased = []
    for shares, is_wall in zip(cells, walls):
        if is_wall == 1:
            eased.append(shares)
        else:
            if shares not in known:
                known[shares] = eased_cell(shares, omega)
            eased.append(known[shares])
    return eased


# The places that the shares of x, y come from, where all cells' shares lie one behind another, way by way.
def cell_sources(cols, rows, walls, x, y):
    here = y * cols + x
    if walls[here] == 1:
        return [here * WAY_COUNT + way for way in range(WAY_COUNT)]
    sources = []
    for way in range(WAY_COUNT):
        there = (y - DOWNWARD[way]) % rows * cols + (x - RIGHTWARD[way]) % cols
        if walls[there] == 1:
            sources.append(here * WAY_COUNT + WAYS_BACK[way])
        else:
            sources.append(there * WAY_COUNT + way)
    return sources


def all_sources(cols, rows, walls):
    sources = []
    for y in range(rows):
        for x in range(cols):
            sources.append(cell_sources(cols, rows, walls, x, y))
    return sources


def moved_cells(cells, sources):
    every_share = []
    for shares in cells:
        every_share.extend(shares)
    return [tuple([every_share[place] for place in places]) for places in sources]


# Raises NotFinite where one of the steps fails.
def behind_steps(cells, walls, omega, sources, count):
    # What a step makes of the cells depends on them alone. So where they come to be as they were before, all that
    # follows comes again too, and whole rounds of it are left out. What is looked out for is chosen anew at ever longer
    # distances: in time it lies within the round, if there is one, and the distance is long enough to meet it again.
    seen = cells
    since = 0
    distance = 1
    left = count
    while left > 0:
        cells = moved_cells(eased_cells(cells, walls, omega), sources)
        left = left - 1
        since = since + 1
        if cells == seen:
            left = left % since
        elif since == distance:
            seen = cells
            since = 0
            distance = distance * 2
    return cells
