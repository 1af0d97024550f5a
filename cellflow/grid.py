"""The calls on one grid, as one list of whole numbers, and their answers."""

from cellflow.cells import Grid

BEGIN = 0
WALL = 1
SET = 2
STEP = 3
GET = 4

# How many whole numbers stand behind each call's number.
GIVEN_COUNTS = (3, 3, 5, 1, 2, 0)


def answer(grid, number, given):
    if number == BEGIN:
        return [grid.begin(given[0], given[1], given[2])]
    if number == WALL:
        return [grid.wall(given[0], given[1], given[2])]
    if number == SET:
        return [grid.set_flow(given[0], given[1], given[2], given[3], given[4])]
    if number == STEP:
        return [grid.step(given[0])]
    if number == GET:
        return grid.get_flow(given[0], given[1])
    return grid.mass()


def answers(calls):
    grid = Grid()
    told = []
    start = 0
    while start < len(calls):
        number = calls[start]
        end = start + 1 + GIVEN_COUNTS[number]
        numbers = answer(grid, number, calls[start + 1:end])
        told.append(len(numbers))
        told.extend(numbers)
        start = end
    return told
