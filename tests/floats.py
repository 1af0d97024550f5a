"""Python's own floats as IEEE 754's doubles, to hold the program's bits against."""

import struct

PLUS_INFINITY = 0x7FF0000000000000
MINUS_INFINITY = 0xFFF0000000000000
QUIET_NAN = 0x7FF8000000000000
NANS = (QUIET_NAN, 0xFFF8000000000000, 0x7FF0000000000001, 0xFFF0000000000001,
        0x7FFFFFFFFFFFFFFF, 0xFFFFFFFFFFFFFFFF)
NOT_FINITE = (PLUS_INFINITY, MINUS_INFINITY) + NANS

SIGN = 1 << 63
LARGEST = 0x7FEFFFFFFFFFFFFF
SMALLEST = 1
LARGEST_SUBNORMAL = 0x000FFFFFFFFFFFFF
SMALLEST_NORMAL = 0x0010000000000000


def bits(value):
    return struct.unpack("<Q", struct.pack("<d", value))[0]


def value(of_bits):
    return struct.unpack("<d", struct.pack("<Q", of_bits))[0]


def pseudo_random_bits(seed):
    """Whole numbers below 2^64, the same ones each time (splitmix64)."""
    mask = (1 << 64) - 1
    state = seed
    while True:
        state = (state + 0x9E3779B97F4A7C15) & mask
        mixed = ((state ^ (state >> 30)) * 0xBF58476D1CE4E5B9) & mask
        mixed = ((mixed ^ (mixed >> 27)) * 0x94D049BB133111EB) & mask
        yield mixed ^ (mixed >> 31)


def shares_at_rest(rho, ux, uy):
    """What the document tells of shares at rest, over Python's floats."""
    u = (ux * ux + uy * uy) * 1.5
    speeds = (0.0, ux, uy, -ux, -uy, ux + uy, uy - ux, -(ux + uy), ux - uy)
    weights = (4 / 9,) + (1 / 9,) * 4 + (1 / 36,) * 4
    shares = []
    for weight, speed in zip(weights, speeds):
        c = 3.0 * speed
        shares.append((weight * rho) * (((1.0 + c) + (0.5 * c) * c) - u))
    return shares
