"""Numbers, roots and angles held between fractions, without checks (DOC.md [42]).

What is held is told as a pair (low, high) of whole numbers: what is meant is
from low up to high over 2, so often doubled from 1 on as the bits tell.
"""

from math import isqrt

from planehall.surds import compared, floor_of, multiply, negative, quotient, reduced, sign_of

FIRST_BITS = 32


def narrowed(holding, many):
    """The pair of fractions, at most 1 over many apart, between which a function of the bits holds something."""
    bits = FIRST_BITS
    low, high = holding(bits)
    while (high - low) * many > 1 << bits:
        bits = 2 * bits
        low, high = holding(bits)
    return (reduced(low, 1 << bits), reduced(high, 1 << bits))


def hold(number, bits):
    low = floor_of(number, 1 << bits)
    is_all = compared(multiply(number, (1 << bits, 1)), (low, 1)) == 0
    return (low, low if is_all else low + 1)


def hold_root(fraction, bits):
    """The root of a fraction from 0 on."""
    return root_of_pair(hold(fraction, 2 * bits))


def root_of_pair(pair):
    """The root of what a pair of twice as many bits holds."""
    low, high = isqrt(pair[0]), isqrt(pair[1])
    return (low, high if high * high == pair[1] else high + 1)


def sum_of(pairs):
    return (sum([low for low, _ in pairs]), sum([high for _, high in pairs]))


def opposite(pair):
    return (-pair[1], -pair[0])


def square_of(pair):
    """The square of what a pair holds, of twice as many bits."""
    ends = sorted([pair[0] * pair[0], pair[1] * pair[1]])
    return (0 if pair[0] < 0 < pair[1] else ends[0], ends[1])


def product_of(pair, other, bits):
    """The product of what two pairs from 0 on hold."""
    return (pair[0] * other[0] >> bits, -(-pair[1] * other[1] >> bits))


def share_of(pair, fraction):
    """What a pair holds times a fraction."""
    top, bottom = fraction
    low, high = (pair[0], pair[1]) if top >= 0 else (pair[1], pair[0])
    return (low * top // bottom, -(-high * top // bottom))


def hold_distance(place, other, bits):
    """The distance of two places, of one field or not."""
    squares = []
    for number, second in zip(place, other):
        squares.append(square_of(sum_of([hold(number, bits), opposite(hold(second, bits))])))
    return root_of_pair(sum_of(squares))


def hold_angle(way, bits):
    """The angle from (1, 0) to a way, from 0, below a whole round."""
    x, y = way
    quarters = 0
    while sign_of(x) <= 0 or sign_of(y) < 0:
        x, y = y, negative(x)
        quarters += 1
    if compared(y, x) <= 0:
        part = hold_slope(quotient(y, x), bits)
    else:
        part = sum_of([hold_rounds(1, bits), opposite(hold_slope(quotient(x, y), bits))])
    low, high = sum_of([part, hold_rounds(quarters, bits)])
    return (max(low, 0), high)


def hold_rounds(quarters, bits):
    """So many quarter rounds: twice the angle to (1, 1) each."""
    low, high = hold_slope((1, 1), bits)
    return (2 * quarters * low, 2 * quarters * high)


def hold_slope(slope, bits):
    """The angle from (1, 0) to (1, t) for a number t from 0 to 1."""
    low, high = hold(slope, bits)
    return (hold_slope_of(low, bits)[0], hold_slope_of(high, bits)[1])


def hold_slope_of(part, bits):
    """The same for t = part over what the bits tell."""
    whole = 1 << bits
    if 2 * part <= whole:
        return hold_sum(part, bits)
    rest = (2 * part - whole) * whole // (2 * whole + part)
    half = hold_sum(whole // 2, bits)
    return (half[0] + hold_sum(rest, bits)[0], half[1] + hold_sum(rest + 1, bits)[1])


def hold_sum(part, bits):
    """t - t^3 / 3 + t^5 / 5 - .. for t = part over what the bits tell, up to 1 / 2."""
    total, power, divisor = 0, part, 1
    while power > 0:
        term = power // divisor
        total += term if divisor // 2 % 2 == 0 else -term
        power = power * part * part >> 2 * bits
        divisor += 2
    # A power is less than 4 / 3 too small, so each of the divisor // 2 terms is off by less than 3, their rest by 2.
    slack = 3 * (divisor // 2) + 2
    return (total - slack, total + slack)
