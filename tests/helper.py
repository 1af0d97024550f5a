"""What the tests have in common: doubles by their bits, the calls, and the document over Python's own floats."""

import itertools
import math
import struct
import unittest

from cellflow.grid import answers

PLUS_INFINITY = 0x7FF0000000000000
MINUS_INFINITY = 0xFFF0000000000000
QUIET_NAN = 0x7FF8000000000000
NANS = (QUIET_NAN, 0xFFF8000000000000, 0x7FF0000000000001, 0xFFF0000000000001,
        0x7FFFFFFFFFFFFFFF, 0xFFFFFFFFFFFFFFFF)
NOT_FINITE = (PLUS_INFINITY, MINUS_INFINITY) + NANS

SIGN = 1 << 63
LARGEST = 0x7FEFFFFFFFFFFFFF
SMALLEST = 1
LARGEST_SUBNORMAL = 0x000FFFFFFFFFFFFF
SMALLEST_NORMAL = 0x0010000000000000

LEAST, MOST = -2147483648, 2147483647


def bits(value):
    return struct.unpack("<Q", struct.pack("<d", value))[0]


def value(of_bits):
    return struct.unpack("<d", struct.pack("<Q", of_bits))[0]


ONE = bits(1.0)
OMEGA = bits(1.7)


def pseudo_random_bits(seed):
    """Whole numbers below 2^64, the same ones each time (splitmix64)."""
    mask = (1 << 64) - 1
    state = seed
    while True:
        state = (state + 0x9E3779B97F4A7C15) & mask
        mixed = ((state ^ (state >> 30)) * 0xBF58476D1CE4E5B9) & mask
        mixed = ((mixed ^ (mixed >> 27)) * 0x94D049BB133111EB) & mask
        yield mixed ^ (mixed >> 31)


class Chance:
    """Choices that are the same ones each time."""

    def __init__(self, seed):
        self.words = pseudo_random_bits(seed)

    def below(self, count):
        return next(self.words) % count

    def one_of(self, choices):
        return choices[self.below(len(choices))]

    def between(self, low, high):
        return low + (high - low) * (next(self.words) / 2 ** 64)


def begin(cols, rows, omega=OMEGA):
    return [0, cols, rows, omega]


def wall(x, y, on=1):
    return [1, x, y, on]


def set_flow(x, y, rho=ONE, ux=bits(0.1), uy=bits(-0.2)):
    return [2, x, y, rho, ux, uy]


def set_values(x, y, rho, ux=0.0, uy=0.0):
    return set_flow(x, y, bits(rho), bits(ux), bits(uy))


def step(n=1):
    return [3, n]


def get(x, y):
    return [4, x, y]


def mass():
    return [5]


def get_all(cols, rows):
    return [get(x, y) for y in range(rows) for x in range(cols)]


def flattened(calls):
    return list(itertools.chain.from_iterable(calls))


def told(*calls):
    """The answers to the calls, one list for each."""
    numbers = answers(flattened(calls))
    apart = []
    while numbers:
        count = numbers[0]
        apart.append(numbers[1:1 + count])
        numbers = numbers[1 + count:]
    assert len(apart) == len(calls), apart
    return apart


def codes(*calls):
    """The answers of calls that are each answered by one number."""
    apart = told(*calls)
    assert all(len(numbers) == 1 for numbers in apart), apart
    return [numbers[0] for numbers in apart]


class Fails(Exception):
    pass


def finite(number):
    if not math.isfinite(number):
        raise Fails()
    return number


WAYS = ((0, 0), (1, 0), (0, 1), (-1, 0), (0, -1), (1, 1), (-1, 1), (-1, -1), (1, -1))
WEIGHTS = (4 / 9,) + (1 / 9,) * 4 + (1 / 36,) * 4


def way_back(way):
    right, down = WAYS[way]
    return WAYS.index((-right, -down))


def shares_at_rest(rho, ux, uy):
    """What the document tells of shares at rest; infinite or no number at all where it fails."""
    u = (ux * ux + uy * uy) * 1.5
    speeds = (0.0, ux, uy, -ux, -uy, ux + uy, uy - ux, -(ux + uy), ux - uy)
    shares = []
    for weight, speed in zip(WEIGHTS, speeds):
        c = 3.0 * speed
        shares.append((weight * rho) * (((1.0 + c) + (0.5 * c) * c) - u))
    return shares


def flow(f):
    rho = finite(f[0] + f[1] + f[2] + f[3] + f[4] + f[5] + f[6] + f[7] + f[8])
    if rho == 0.0:
        raise Fails()
    ux = ((f[1] - f[3]) + (f[5] - f[6]) + (f[8] - f[7])) / rho
    uy = ((f[2] - f[4]) + (f[5] - f[8]) + (f[6] - f[7])) / rho
    return rho, finite(ux), finite(uy)


def eased(f, omega):
    return [finite(share - omega * (share - rest)) for share, rest in zip(f, shares_at_rest(*flow(f)))]


class Model:
    """The document over Python's floats; shares are handed on from where they are, not fetched."""

    def __init__(self, cols, rows, omega):
        self.cols, self.rows, self.omega = cols, rows, value(omega)
        self.walls = set()
        self.cells = {(x, y): shares_at_rest(1.0, 0.0, 0.0) for y in range(rows) for x in range(cols)}

    def wall(self, x, y, on):
        if (x, y) not in self.cells or on not in (0, 1):
            return [-2]
        if on:
            self.walls.add((x, y))
        else:
            self.walls.discard((x, y))
        return [0]

    def set_flow(self, x, y, *of_bits):
        if (x, y) not in self.cells:
            return [-2]
        given = [value(number) for number in of_bits]
        if not all(math.isfinite(number) for number in given):
            return [-3]
        shares = shares_at_rest(*given)
        if not all(math.isfinite(share) for share in shares):
            return [-4]
        self.cells[x, y] = shares
        return [0]

    def step(self, n):
        if n < 0 or n > 1000000:
            return [-2]
        before = self.cells
        try:
            for _ in range(n):
                self.cells = self.stepped()
        except Fails:
            self.cells = before
            return [-4]
        return [0]

    def stepped(self):
        after = {place: [None] * 9 for place in self.cells}
        for (x, y), shares in self.cells.items():
            if (x, y) in self.walls:
                after[x, y] = shares
                continue
            for way, share in enumerate(eased(shares, self.omega)):
                there = ((x + WAYS[way][0]) % self.cols, (y + WAYS[way][1]) % self.rows)
                if there in self.walls:
                    after[x, y][way_back(way)] = share
                else:
                    after[there][way] = share
        return after

    def get(self, x, y):
        if (x, y) not in self.cells:
            return [-2]
        try:
            return [0] + [bits(number) for number in flow(self.cells[x, y])]
        except Fails:
            return [-4]

    def mass(self):
        total = 0.0
        for y in range(self.rows):
            for x in range(self.cols):
                if (x, y) not in self.walls:
                    for share in self.cells[x, y]:
                        total = total + share
        return [0, bits(total)] if math.isfinite(total) else [-4]


def model_told(*calls):
    """What the document asks to be answered to the calls, one list for each."""
    model = None
    apart = []
    for number, *given in calls:
        if number == 0:
            cols, rows, omega = given
            if not (1 <= cols <= 256 and 1 <= rows <= 256):
                apart.append([-2])
            elif not math.isfinite(value(omega)):
                apart.append([-3])
            else:
                model = Model(cols, rows, omega)
                apart.append([0])
        else:
            of_call = (None, model.wall, model.set_flow, model.step, model.get, model.mass)[number]
            apart.append(of_call(*given))
    return apart


class Checked(unittest.TestCase):
    def check(self, *calls):
        """The program answers what the document asks; that is given back."""
        want = model_told(*calls)
        self.assertEqual(told(*calls), want, calls)
        return want
