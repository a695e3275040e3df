"""The chart of some curves: their corners, edges and faces (DOC.md [12])."""

from planehall.columns import check_index
from planehall.curves import check_curves, check_place
from planehall.parting import Parting, edges_of, faces_around, location, points_of_faces


def parting_of(curves):
    check_curves(curves)
    return Parting(curves)


def corners(curves):
    """The ascending tuple of the places on two or more curves."""
    return tuple(parting_of(curves).corners)


def edges(curves):
    """The tuple of all edges as (INDEX, FROM, TO, INSIDE, OUTSIDE), FROM being the lesser corner."""
    found = []
    for index, start, stop, inside, outside in edges_of(parting_of(curves)):
        if start is not None and stop is not None and stop < start:
            found.append((index, stop, start, inside, outside))
        else:
            found.append((index, start, stop, inside, outside))
    return tuple(found)


def faces(curves):
    """The tuple of a point in each face."""
    return tuple(points_of_faces(parting_of(curves)))


def locate(curves, place):
    """The corner, edge or face in which a place is: the pair of one of these words and the index."""
    check_curves(curves)
    check_place(place)
    return location(Parting(curves), place)


def touching(curves, corner):
    """The ascending tuple of the indexes of the faces that touch a corner."""
    parting = parting_of(curves)
    check_index(corner, len(parting.corners))
    return faces_around(parting, corner)
