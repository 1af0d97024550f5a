"""A cell's nine shares and the flow they stand for."""

from cellflow.doubles import HALF, ONE, ONE_AND_A_HALF, THREE, ZERO, add, divide, multiply, opposite, subtract

# The quotients 4/9, 1/9 and 1/36, way by way.
WEIGHTS = (
    0x3FDC71C71C71C71C,
    0x3FBC71C71C71C71C,
    0x3FBC71C71C71C71C,
    0x3FBC71C71C71C71C,
    0x3FBC71C71C71C71C,
    0x3F9C71C71C71C71C,
    0x3F9C71C71C71C71C,
    0x3F9C71C71C71C71C,
    0x3F9C71C71C71C71C,
)


# How fast the flow goes along each way.
def speeds(ux, uy):
    both = add(ux, uy)
    return (
        ZERO,
        ux,
        uy,
        opposite(ux),
        opposite(uy),
        both,
        subtract(uy, ux),
        opposite(both),
        subtract(ux, uy),
    )


def share_at_rest(weight, rho, speed, u):
    c = multiply(THREE, speed)
    linear = add(ONE, c)
    square = multiply(multiply(HALF, c), c)
    return multiply(multiply(weight, rho), subtract(add(linear, square), u))


# Raises NotFinite where a number on the way is not finite.
def shares_at_rest(rho, ux, uy):
    u = multiply(add(multiply(ux, ux), multiply(uy, uy)), ONE_AND_A_HALF)
    along = speeds(ux, uy)
    return tuple([share_at_rest(weight, rho, speed, u) for weight, speed in zip(WEIGHTS, along)])


def rightward(shares):
    straight = subtract(shares[1], shares[3])
    lower = subtract(shares[5], shares[6])
    upper = subtract(shares[8], shares[7])
    return add(add(straight, lower), upper)


def downward(shares):
    straight = subtract(shares[2], shares[4])
    right = subtract(shares[5], shares[8])
    left = subtract(shares[6], shares[7])
    return add(add(straight, right), left)


# rho, ux and uy. Raises NotFinite where a number on the way is not finite, and where rho is 0.
def flow_of(shares):
    rho = shares[0]
    for share in shares[1:]:
        rho = add(rho, share)
    return (rho, divide(rightward(shares), rho), divide(downward(shares), rho))
