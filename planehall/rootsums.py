"""Sums of roots of fractions, without checks (DOC.md [40]).

A signed root is a fraction other than 0: its root, or less than 0 by the root
of it without its sign.
"""

from math import isqrt

from planehall.surds import add, compared, divide, is_square, multiply, reduced, sign, squared, surd_of
from planehall.sweep import ascending

ONE = (1, 1)


def are_of_one_kind(fraction, other):
    """Whether two fractions other than 0, without their signs, have a product that is a square."""
    return is_square(abs(fraction[0] * fraction[1] * other[0] * other[1]))


def sum_of_two(fraction, other):
    """The signed root that is the sum of two signed roots of one kind; None for 0."""
    # Without their signs root(f) is root(f g) / g times root(g).
    many = reduced(isqrt(abs(fraction[0] * fraction[1] * other[0] * other[1])), fraction[1] * abs(other[0]))
    share = add(signed(many, fraction), signed(ONE, other))
    if share[0] == 0:
        return None
    return signed(multiply(squared(share), (abs(other[0]), other[1])), share)


def signed(fraction, other):
    """A fraction, with the opposite sign if another one is below 0."""
    return (fraction[0] * sign(other[0]), fraction[1])


def with_root(row, fraction):
    """A list of signed roots of unlike kinds, and one more added to it."""
    for other in row:
        if are_of_one_kind(fraction, other):
            both = sum_of_two(fraction, other)
            rest = [root for root in row if root != other]
            return rest if both is None else rest + [both]
    return row + [fraction]


def sum_of_roots(fractions):
    """The roots in their one form that are the sum of signed roots."""
    row = []
    for fraction in fractions:
        row = with_root(row, fraction)
    return tuple(ascending(row, compared))


def parts_of_number(number):
    """The list of pairs of a fraction and what stands under a root, of which a number is the sum."""
    a, b, under, w = surd_of(number)
    parts = [(reduced(a, w), 1), (reduced(b, w), under)]
    return [part for part in parts if part[0][0] != 0]


def roots_of_product(number, other, share):
    """The list of signed roots of which a fraction times the product of two numbers of any fields is the sum."""
    roots = []
    for first, under in parts_of_number(number):
        for second, beside in parts_of_number(other):
            many = multiply(multiply(first, second), share)
            roots.append(signed(multiply(squared(many), (under * beside, 1)), many))
    return roots


def roots_of_half_cross(place, other, share):
    """The list of signed roots of which a fraction times half of x y' - y x' is the sum."""
    half = divide(share, (2, 1))
    there = roots_of_product(place[0], other[1], half)
    return there + roots_of_product(place[1], other[0], multiply(half, (-1, 1)))
