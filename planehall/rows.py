"""Rows: on which sides of some curves free places are (DOC.md [19] to [23])."""

from planehall.bends import near_rows
from planehall.curves import check_curves, check_place
from planehall.figures import check_row
from planehall.papers import have_all_rows, points_by_row
from planehall.sweep import corners_of


def rows_near(curves, place):
    """The ascending tuple of the rows near a place."""
    check_curves(curves)
    check_place(place)
    return tuple(near_rows(curves, place))


def lone_curves(curves):
    """The ascending tuple of the indexes of the curves without a corner."""
    check_curves(curves)
    met = {k: True for _, through in corners_of(curves) for k in through}
    return tuple([k for k in range(len(curves)) if k not in met])


def rows_of(curves):
    """The ascending tuple of all rows that free places have."""
    check_curves(curves)
    return tuple(sorted(points_by_row(curves)))


def point_with(curves, row):
    """A point of a row; None if no free place has it."""
    check_curves(curves)
    check_row(row, len(curves), False)
    return points_by_row(curves).get(row)


def samples_of(curves):
    """Samples for some curves: a point of each row."""
    check_curves(curves)
    return tuple(points_by_row(curves).values())


def are_samples(curves, points):
    """Whether a value, whatever it is, is samples for some curves."""
    check_curves(curves)
    return have_all_rows(curves, points)
