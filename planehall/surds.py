"""Sums, products and the order of numbers, without checks (DOC.md [6] and [7]).

Each argument called number, other, low or high is a number in its one form;
the two numbers of a sum or a product lie in one field. In between, a number is
told as a surd (a, b, r, w): (a + b root(r)) / w with w above 0, and with r
above 0 and no square of a whole number, or r and b both 0.
"""

from math import gcd, isqrt


def reduced(top, bottom):
    """The fraction top / bottom, bottom not being 0."""
    part = gcd(top, bottom)
    if bottom < 0:
        part = -part
    return (top // part, bottom // part)


def discriminant(number):
    """What stands under the root of a number, 0 for a fraction."""
    if len(number) == 2:
        return 0
    return number[1] * number[1] - 4 * number[0] * number[2]


def surd_of(number):
    if len(number) == 2:
        return (number[0], 0, 0, number[1])
    return (-number[1], 1 if number[3] else -1, discriminant(number), 2 * number[0])


def number_of(a, b, r, w):
    """The number that a surd tells."""
    if b == 0:
        return reduced(a, w)
    square, middle, rest = w * w, -2 * a * w, a * a - b * b * r
    part = gcd(gcd(square, middle), rest)
    return (square // part, middle // part, rest // part, b > 0)


def is_square(whole):
    """Whether a whole number from 0 on is the square of one."""
    side = isqrt(whole)
    return side * side == whole


def have_one_field(number, other):
    return is_square(discriminant(number) * discriminant(other))


def over_one_root(number, other):
    """(a, b, w, c, d, v, r): both numbers as (a + b root(r)) / w, (c + d root(r)) / v."""
    a, b, r, w = surd_of(number)
    c, d, s, v = surd_of(other)
    if r == 0:
        return (a, b, w, c, d, v, s)
    # In one field root(s) is root(r s) / r times root(r), and root(r s) is whole.
    return (a, b, w, c * r, d * isqrt(r * s), v * r, r)


def add(number, other):
    a, b, w, c, d, v, r = over_one_root(number, other)
    return number_of(a * v + c * w, b * v + d * w, r, w * v)


def negative(number):
    if len(number) == 2:
        return (-number[0], number[1])
    return (number[0], -number[1], number[2], not number[3])


def subtract(number, other):
    return add(number, negative(other))


def multiply(number, other):
    a, b, w, c, d, v, r = over_one_root(number, other)
    return number_of(a * c + b * d * r, a * d + b * c, r, w * v)


def squared(number):
    return multiply(number, number)


def divide(number, fraction):
    """A number over a fraction other than 0."""
    return multiply(number, reduced(fraction[1], fraction[0]))


def quotient(number, other):
    """A number over another one of its field, other than 0."""
    a, b, r, w = surd_of(other)
    # 1 over (a + b root(r)) is (a - b root(r)) over a whole number, which is 0 for no number but 0.
    whole = a * a - b * b * r
    turn = 1 if whole > 0 else -1
    return multiply(number, number_of(turn * a * w, -turn * b * w, r, turn * whole))


def square_root(fraction):
    """The number from 0 on of which the square is a fraction from 0 on."""
    top, bottom = fraction
    if is_square(top * bottom):
        return reduced(isqrt(top * bottom), bottom)
    return number_of(0, 1, top * bottom, bottom)


def sign(whole):
    if whole == 0:
        return 0
    return 1 if whole > 0 else -1


def sign_of_two(a, b, r):
    """The sign of a + b root(r), r being above 0 or b being 0."""
    first, second = sign(a), sign(b)
    if first == second or second == 0:
        return first
    if first == 0:
        return second
    return first * sign(a * a - b * b * r)


def sign_of_three(a, b, r, c, s):
    """The sign of a + b root(r) + c root(s), likewise."""
    first, second = sign_of_two(a, b, r), sign(c)
    if first == second or second == 0:
        return first
    if first == 0:
        return second
    return first * sign_of_two(a * a + b * b * r - c * c * s, 2 * a * b, r)


def sign_of(number):
    a, b, r, _ = surd_of(number)
    return sign_of_two(a, b, r)


def compared(number, other):
    """-1, 0 or 1 as the first number, of any field, is below, at or above the other one."""
    a, b, r, w = surd_of(number)
    c, d, s, v = surd_of(other)
    return sign_of_three(a * v - c * w, b * v, r, -d * w, s)


def floor_of(number, many):
    """The greatest whole number up to a whole number from 1 on times the number."""
    a, b, r, w = surd_of(number)
    part = isqrt(b * b * many * many * r)
    if b < 0:
        # No multiple of a root is whole, so what is below 0 lies strictly above the next one.
        part = -part - 1
    return (a * many + part) // w


def fraction_between(low, high):
    """The fraction of [7] above low and below high: the first one for 1, 2, 4, .. as divisor."""
    # A divisor that serves does so doubled, too: so the first one can be closed in on.
    least, most = 0, 1
    while compared(step_above(low, most), high) >= 0:
        least, most = most + 1, 2 * most
    while least < most:
        middle = (least + most) // 2
        if compared(step_above(low, middle), high) < 0:
            most = middle
        else:
            least = middle + 1
    return step_above(low, most)


def step_above(number, doublings):
    """The least fraction above a number with 2, so often doubled from 1 on, as divisor."""
    many = 1 << doublings
    return reduced(floor_of(number, many) + 1, many)
