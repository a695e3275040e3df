"""Points, places, lines and circles, and what they have in common (DOC.md [8] and [9])."""

from planehall.errors import InvalidCurve, InvalidCurves, InvalidPlace, InvalidPoint, InvalidWay
from planehall.meets import ORIGIN, alike_line, common_places, form, lines_meet, side_of
from planehall.roots import is_fraction, is_number
from planehall.surds import add, have_one_field, multiply, squared, subtract

MOST_CURVES = 9


def is_point(value):
    if not isinstance(value, tuple) or len(value) != 2:
        return False
    return is_fraction(value[0]) and is_fraction(value[1])


def is_place(value):
    """Whether a value is a pair of numbers of one field."""
    if not isinstance(value, tuple) or len(value) != 2:
        return False
    return is_number(value[0]) and is_number(value[1]) and have_one_field(value[0], value[1])


def is_curve(value):
    if not isinstance(value, tuple) or len(value) != 4 or not isinstance(value[0], str):
        return False
    kind, a, b, c = value
    if not is_fraction(a) or not is_fraction(b) or not is_fraction(c):
        return False
    if kind == "line":
        return a[0] != 0 or b[0] != 0
    return kind == "circle" and c[0] > 0


def check_point(point):
    if not is_point(point):
        raise InvalidPoint(point)


def check_way(way):
    """Raises InvalidWay for what is no point other than (0, 0)."""
    if not is_point(way) or way == ORIGIN:
        raise InvalidWay(way)


def check_place(place):
    if not is_place(place):
        raise InvalidPlace(place)


def check_curve(curve):
    if not is_curve(curve):
        raise InvalidCurve(curve)


def check_curves(curves):
    """Raises InvalidCurves for what is no tuple of up to nine unlike forms of curves."""
    if not isinstance(curves, tuple) or len(curves) > MOST_CURVES:
        raise InvalidCurves(None)
    for index, curve in enumerate(curves):
        if not is_curve(curve) or form(curve) != curve or curve in curves[:index]:
            raise InvalidCurves(index)


def form_of(curve):
    """The curve as it is told in a row of curves: one for all multiples of a line."""
    check_curve(curve)
    return form(curve)


def sign_at(curve, place):
    """-1, 0 or 1 as the place is inside, on or outside of the curve as it is told."""
    check_curve(curve)
    check_place(place)
    return side_of(curve, place)


def crossings(curve, second):
    """The ascending tuple of the places on both curves, () for curves that are one."""
    check_curve(curve)
    check_curve(second)
    return common_places(curve, second)


def do_touch(curve, second):
    """Whether two curves have just one place in common and run along one line there."""
    places = crossings(curve, second)
    if curve[0] == "line" and second[0] == "line":
        return False
    # A line or circle that crosses a circle does so twice: one place alone is a touch.
    return len(places) == 1


def line_through(point, second_point):
    """The form of the line through two unlike points."""
    check_point(point)
    check_point(second_point)
    if point == second_point:
        raise InvalidPoint(second_point)
    a, b = subtract(second_point[1], point[1]), subtract(point[0], second_point[0])
    return form(("line", a, b, add(multiply(a, point[0]), multiply(b, point[1]))))


def circle_through(one, two, three):
    """The circle through three points; None for points on one line, or alike."""
    for point in (one, two, three):
        check_point(point)
    # Where circles of one size round two points have one value, it is as far to one point as to the other.
    first, second = alike_line(unit_circle(one), unit_circle(two)), alike_line(unit_circle(one), unit_circle(three))
    if first is None or second is None:
        return None
    centres = lines_meet(first, second)
    if not centres:
        return None
    x, y = centres[0]
    return ("circle", x, y, add(squared(subtract(one[0], x)), squared(subtract(one[1], y))))


def unit_circle(point):
    return ("circle", point[0], point[1], (1, 1))
