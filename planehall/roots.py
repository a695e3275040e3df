"""Fractions and numbers: their order, sums and products (DOC.md [6] and [7])."""

from math import gcd

from planehall.errors import InvalidCount, InvalidFraction, InvalidNumber
from planehall.surds import add, compared, floor_of, fraction_between, have_one_field
from planehall.surds import is_square, multiply, square_root, subtract

MOST_PARTS = 1000000


def is_whole(value):
    """Whether a value is a whole number: True and False are none."""
    return isinstance(value, int) and not isinstance(value, bool)


def is_fraction(value):
    if not isinstance(value, tuple) or len(value) != 2:
        return False
    if not is_whole(value[0]) or not is_whole(value[1]):
        return False
    return value[1] > 0 and gcd(value[0], value[1]) == 1


def is_root(value):
    if not isinstance(value, tuple) or len(value) != 4 or not isinstance(value[3], bool):
        return False
    square, middle, rest, _ = value
    if not is_whole(square) or not is_whole(middle) or not is_whole(rest):
        return False
    if square <= 0 or gcd(gcd(square, middle), rest) != 1:
        return False
    under = middle * middle - 4 * square * rest
    return under > 0 and not is_square(under)


def is_number(value):
    return is_fraction(value) or is_root(value)


def check_fraction(fraction):
    if not is_fraction(fraction):
        raise InvalidFraction(fraction)


def check_number(number):
    if not is_number(number):
        raise InvalidNumber(number)


def check_numbers(number, other):
    check_number(number)
    check_number(other)


def check_one_field(number, other):
    check_numbers(number, other)
    if not have_one_field(number, other):
        raise InvalidNumber(other)


def check_many(many):
    if not is_whole(many) or many < 1 or many > MOST_PARTS:
        raise InvalidCount(many)


def root_of(fraction):
    """The number from 0 on of which the square is the fraction."""
    check_fraction(fraction)
    if fraction[0] < 0:
        raise InvalidFraction(fraction)
    return square_root(fraction)


def order(number, other):
    """-1, 0 or 1 as the first number is below, at or above the other one."""
    check_numbers(number, other)
    return compared(number, other)


def lie_in_one(number, other):
    """Whether both numbers lie in one field."""
    check_numbers(number, other)
    return have_one_field(number, other)


def plus(number, other):
    check_one_field(number, other)
    return add(number, other)


def less(number, other):
    """The first number less the other one."""
    check_one_field(number, other)
    return subtract(number, other)


def times(number, other):
    check_one_field(number, other)
    return multiply(number, other)


def near(number, many):
    """The greatest whole k with k / many up to the number, and whether this is the number."""
    check_number(number)
    check_many(many)
    part = floor_of(number, many)
    return (part, compared((part, 1), multiply(number, (many, 1))) == 0)


def between(number, other):
    """A fraction strictly between two unlike numbers; None for one number."""
    check_numbers(number, other)
    side = compared(number, other)
    if side == 0:
        return None
    return fraction_between(number, other) if side < 0 else fraction_between(other, number)
