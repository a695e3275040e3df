"""Leads: moves, turns, mirrors and what they lead to what (DOC.md [26])."""

from planehall.curves import check_curve, check_place, check_point, check_way, is_point
from planehall.errors import InvalidCurve, InvalidLead
from planehall.leading import ONE, after, image_of, image_of_curve, moving, undoing, widening
from planehall.meets import ORIGIN
from planehall.roots import is_fraction
from planehall.surds import add, divide, multiply, squared, subtract


def is_lead(value):
    """Whether a value, whatever it is, is a lead."""
    if not isinstance(value, tuple) or len(value) != 4:
        return False
    a, b, is_mirrored, shift = value
    if not is_fraction(a) or not is_fraction(b) or not isinstance(is_mirrored, bool):
        return False
    return (a[0] != 0 or b[0] != 0) and is_point(shift)


def check_lead(lead):
    if not is_lead(lead):
        raise InvalidLead(lead)


def led_place(lead, place):
    """The place to which a lead leads a place."""
    check_lead(lead)
    check_place(place)
    return image_of(lead, place)


def led_curve(lead, curve):
    """The curve to which a lead leads a curve, a line not made its form."""
    check_lead(lead)
    check_curve(curve)
    return image_of_curve(lead, curve)


def behind(lead, later):
    """The lead that leads as the first one and then as the later one."""
    check_lead(lead)
    check_lead(later)
    return after(lead, later)


def back(lead):
    """The lead that undoes a lead."""
    check_lead(lead)
    return undoing(lead)


def is_rigid(lead):
    """Whether a lead keeps all distances."""
    check_lead(lead)
    return widening(lead) == ONE


def move(shift):
    """The lead that moves all places by a point."""
    check_point(shift)
    return moving(shift)


def turn(way):
    """The lead that turns round (0, 0) by twice the angle of a way."""
    check_way(way)
    a, b = way
    length = add(squared(a), squared(b))
    twice = multiply((2, 1), multiply(a, b))
    return (divide(subtract(squared(a), squared(b)), length), divide(twice, length), False, ORIGIN)


def mirror(curve):
    """The lead that exchanges both sides of a line."""
    check_curve(curve)
    kind, a, b, c = curve
    if kind == "circle":
        raise InvalidCurve(curve)
    length = add(squared(a), squared(b))
    first = divide(subtract(squared(b), squared(a)), length)
    second = divide(multiply((-2, 1), multiply(a, b)), length)
    far = divide(multiply((2, 1), c), length)
    return (first, second, True, (multiply(far, a), multiply(far, b)))
