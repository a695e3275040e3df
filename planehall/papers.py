"""What papers for the checker are made of: bends, rays and samples, without checks (DOC.md [21] to [25], [35])."""

from planehall.curves import is_point
from planehall.meets import dot, numbers_along, side_of
from planehall.parting import Parting, points_of_faces
from planehall.shapes import forms, plain, row_at, truth_of
from planehall.surds import add, compared, divide, multiply, negative, sign_of, subtract
from planehall.sweep import ascending, sample_of

NIL = (0, 1)
# For each claim over all free places the truths, one for each figure, that no free place may have.
CONTRARY = {
    "empty": ((True,),),
    "same": ((True, False), (False, True)),
    "within": ((True, False),),
    "apart": ((True, True),),
}
# What is claimed otherwise, by a free point that has such truths.
DENIALS = {"empty": "not empty", "same": "unlike", "within": "not within", "apart": "not apart"}


def normal_at(curve, place):
    """The normal of a curve at a place on it."""
    kind, a, b, _ = curve
    if kind == "line":
        return (a, b)
    return (multiply((2, 1), subtract(place[0], a)), multiply((2, 1), subtract(place[1], b)))


def way_beside(normal, is_left):
    return (negative(normal[1]), normal[0]) if is_left else (normal[1], negative(normal[0]))


def rise_of(curve, way):
    """What [21] calls G."""
    return NIL if curve[0] == "line" else dot(way, way)


def row_of_bend(curves, place, bend):
    """The row near a place of a bend (CURVE, IS_LEFT, C) there; None if C is a threshold."""
    curve, is_left, number = bend
    across = normal_at(curve, place)
    way = way_beside(across, is_left)
    row = []
    for other in curves:
        side = side_of(other, place)
        if side == 0:
            normal = normal_at(other, place)
            bent = add(multiply(number, dot(normal, across)), rise_of(other, way))
            side = sign_of(dot(normal, way)) or sign_of(bent)
        if side == 0:
            return None
        row.append(side < 0)
    return tuple(row)


def bends_at(curves, place):
    """The list of bends at a place that have all rows near it, () being near a place on no curve."""
    through = [curve for curve in curves if side_of(curve, place) == 0]
    bends = []
    for curve in through:
        across = normal_at(curve, place)
        for is_left in (True, False):
            marks = thresholds(through, place, across, way_beside(across, is_left))
            bends += [(curve, is_left, sample_of(marks, k)) for k in range(len(marks) + 1)]
    return bends


def thresholds(through, place, across, way):
    """The ascending list of the thresholds of the curves through a place along a way.

    They are fractions: unlike curves along one way touch, which they do in points
    alone, and a circle's own normal has four times its square as square.
    """
    marks = []
    for curve in through:
        normal = normal_at(curve, place)
        if sign_of(dot(normal, way)) == 0:
            marks.append(negative(divide(rise_of(curve, way), dot(normal, across))))
    return ascending(marks, compared)


def is_free_point(curves, value):
    """Whether a value, whatever it is, is a point on none of the curves."""
    return is_point(value) and None not in row_at(curves, value)


def points_by_row(curves):
    """The dict of a point for each row that free places have."""
    found = {}
    for point in points_of_faces(Parting(curves)):
        found.setdefault(row_at(curves, point), point)
    return found


def have_all_rows(curves, points):
    """Whether a value, whatever it is, is samples for some curves."""
    if not isinstance(points, tuple) or not all([is_free_point(curves, point) for point in points]):
        return False
    rows = {row_at(curves, point): True for point in points}
    # Just the rows of free places are near corners and lone curves ([23]).
    return all([row in rows for row in points_by_row(curves)])


def is_free_ray(curves, point, way):
    """Whether all places from a point on along a way are on none of the curves."""
    return not any([meets_ray(curve, point, way) for curve in curves])


def meets_ray(curve, point, way):
    return side_of(curve, point) == 0 or any([sign_of(number) > 0 for number in numbers_along(curve, point, way)])


def forms_together(figures):
    """The ascending tuple of the forms of all bounds of one or two figures."""
    return forms(figures[0]) if len(figures) == 1 else forms(("join", *figures))


def plains_together(figures, curves):
    """The list of the plains of some figures, for the curves of all."""
    return [plain(figure, curves) for figure in figures]


def truths_at(plains, row):
    return tuple([truth_of(told, row) for told in plains])


def centred(square):
    """The circle round (0, 0) with a fraction as square."""
    return ("circle", NIL, NIL, square)


def with_circle(curves, circle):
    """Some curves, and a circle behind them if it is none of them."""
    return curves if circle in curves else curves + (circle,)
