"""Rows: on which sides of some curves free places are (DOC.md [19] to [23])."""

from planehall.bends import near_rows
from planehall.curves import check_curves, check_place, is_point
from planehall.figures import check_row
from planehall.parting import Parting, points_of_faces
from planehall.shapes import row_at
from planehall.sweep import corners_of


def points_by_row(curves):
    """The dict of a point for each row that free places have."""
    found = {}
    for point in points_of_faces(Parting(curves)):
        found.setdefault(row_at(curves, point), point)
    return found


def rows_near(curves, place):
    """The ascending tuple of the rows near a place."""
    check_curves(curves)
    check_place(place)
    return tuple(near_rows(curves, place))


def lone_curves(curves):
    """The ascending tuple of the indexes of the curves without a corner."""
    check_curves(curves)
    met = {k: True for _, through in corners_of(curves) for k in through}
    return tuple([k for k in range(len(curves)) if k not in met])


def rows_of(curves):
    """The ascending tuple of all rows that free places have."""
    check_curves(curves)
    return tuple(sorted(points_by_row(curves)))


def point_with(curves, row):
    """A point of a row; None if no free place has it."""
    check_curves(curves)
    check_row(row, len(curves), False)
    return points_by_row(curves).get(row)


def samples_of(curves):
    """Samples for some curves: a point of each row."""
    check_curves(curves)
    return tuple(points_by_row(curves).values())


def are_samples(curves, points):
    """Whether a value, whatever it is, is samples for some curves."""
    check_curves(curves)
    if not isinstance(points, tuple) or not all([is_point(point) for point in points]):
        return False
    rows = {row_at(curves, point): True for point in points}
    if [row for row in rows if None in row]:
        return False
    # Just the rows of free places are near corners and lone curves ([23]).
    return all([row in rows for row in points_by_row(curves)])
