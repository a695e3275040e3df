"""Figures compared: empty, one, within, apart, bounded, with a point or a ray for no (DOC.md [25])."""

from planehall.figures import check_figure, check_figures
from planehall.parting import Parting, points_of_faces
from planehall.shapes import forms, plain, row_at, truth_of
from planehall.surds import divide, negative
from planehall.sweep import ascending, compared_heights, corners_of, events_of, heights_at, sample_of

NIL = (0, 1)
ONE = (1, 1)
MINUS = (-1, 1)


def is_empty(figure):
    """Whether no free place is in a figure."""
    return inner_point(figure) is None


def inner_point(figure):
    """A free point that is in a figure; None if there is none."""
    check_figure(figure)
    curves = forms(figure)
    return point_told(curves, (plain(figure, curves),), ((True,),))


def is_same(figure, other):
    """Whether two figures tell alike at all places."""
    return parting_point(figure, other) is None


def parting_point(figure, other):
    """A point free for both figures that is in just one of them; None if there is none."""
    return point_of_both(figure, other, ((True, False), (False, True)))


def is_within(figure, other):
    """Whether no place free for both figures is in the first one and not in the other one."""
    return outer_point(figure, other) is None


def outer_point(figure, other):
    """A point free for both figures that is in the first one and not in the other one; None if there is none."""
    return point_of_both(figure, other, ((True, False),))


def are_apart(figure, other):
    """Whether no place free for both figures is in both."""
    return shared_point(figure, other) is None


def shared_point(figure, other):
    """A point free for both figures that is in both; None if there is none."""
    return point_of_both(figure, other, ((True, True),))


def point_of_both(figure, other, wanted):
    """A point free for both figures at which the pair of their truths is among those wanted; None if there is none."""
    check_figures(figure, other)
    curves = forms(("join", figure, other))
    return point_told(curves, (plain(figure, curves), plain(other, curves)), wanted)


def point_told(curves, plains, wanted):
    """A free point at which the tuple of the truths of some plains is among those wanted; None if there is none."""
    for point in points_of_faces(Parting(curves)):
        row = row_at(curves, point)
        if tuple([truth_of(told, row) for told in plains]) in wanted:
            return point
    return None


def is_bounded(figure):
    """Whether all free places that are in a figure lie in some disc."""
    return ray_of(figure) is None


def ray_of(figure):
    """A pair of a point and a way, all places from the point on along it being free and in; None if there is none."""
    check_figure(figure)
    curves = forms(figure)
    told = plain(figure, curves)
    for point, way in rays_of(curves):
        if truth_of(told, row_at(curves, point)):
            return (point, way)
    return None


def rays_of(curves):
    """The list of pairs of a point and a way that meets no curve, at least one of them in each face without end."""
    numbers = events_of(curves, corners_of(curves))
    rays = []
    for column in range(len(numbers) + 1):
        x = sample_of(numbers, column)
        pairs = ascending(heights_at(curves, x), compared_heights)
        heights, arcs = [height for _, height in pairs], [curves[index] for (index, _), _ in pairs]
        points = [(x, sample_of(heights, gap)) for gap in range(len(pairs) + 1)]
        rays += [(points[0], (NIL, MINUS)), (points[-1], (NIL, ONE))]
        if column == 0:
            rays += [(point, (MINUS, negative(rise))) for point, rise in zip(points[1:-1], rises_of(arcs))]
        if column == len(numbers):
            rays += [(point, (ONE, rise)) for point, rise in zip(points[1:-1], rises_of(arcs))]
    return rays


def rises_of(lines):
    """By how much each line rises to the right.

    Going out over the first or the last column no two lines come nearer to one
    another, so from between two of them the way along the lower one meets none.
    """
    return [negative(divide(line[1], line[2])) for line in lines]
