"""Rims, bodies and holes of figures and of faces (DOC.md [36] to [39])."""

from planehall.columns import check_index
from planehall.curves import check_curves
from planehall.meaning import told_near
from planehall.parting import Parting, edges_of, points_of_faces
from planehall.rimform import pieces_told
from planehall.rounds import Rounds, bodies_by_rims, far_faces, many_faces
from planehall.shapes import forms, plain


def rounds_of(figure):
    """The rims and bodies of a figure, on the chart of its rim's curves alone: alike for figures that are one."""
    parting = Parting(tuple({piece[0]: True for piece in pieces_told(figure)}))
    curves = forms(figure)
    told = plain(figure, curves)
    return Rounds(parting, [told_near(told, curves, point) == "in" for point in points_of_faces(parting)])


def rims(figure):
    """The tuple of all rims as (IS_CLOSED, INDEXES), in order."""
    return tuple(rounds_of(figure).rims)


def next_piece(figure, index):
    """The index of the next of a piece; None for one that goes out without end."""
    nexts = rounds_of(figure).nexts
    check_index(index, len(nexts))
    return nexts[index]


def bodies(figure):
    """The tuple of all bodies as (POINT, ROW, IS_BOUNDED, HOLES), in the order of ROW."""
    rounds = rounds_of(figure)
    return tuple(bodies_by_rims(rounds, points_of_faces(rounds.parting)))


def all_bounded(figure):
    """Whether all bodies of a figure are bounded."""
    return all([is_bounded for _, _, is_bounded, _ in bodies(figure)])


def parting_with(curves, face):
    """The chart of some curves, InvalidIndex being raised for what is no index of a face."""
    check_curves(curves)
    parting = Parting(curves)
    check_index(face, many_faces(parting))
    return parting


def rims_around(parting, face):
    """The pair of how many rims of a face are closed, and how many endless."""
    rounds = Rounds(parting, [face == other for other in range(many_faces(parting))])
    closed = len([is_closed for is_closed, _ in rounds.rims if is_closed])
    return (closed, len(rounds.rims) - closed)


def holes_in(parting, face):
    """How many holes a face has."""
    closed, _ = rims_around(parting, face)
    return closed if face in far_faces(parting) else closed - 1


def face_rims(curves, face):
    """The pair of how many rims of a face are closed, and how many endless."""
    return rims_around(parting_with(curves, face), face)


def face_is_bounded(curves, face):
    """Whether a face lies in some disc."""
    return face not in far_faces(parting_with(curves, face))


def face_holes(curves, face):
    """How many holes a face has."""
    return holes_in(parting_with(curves, face), face)


def round_number(curves):
    """Corners, less edges but whole circles without a corner, and faces, less the holes of all faces."""
    check_curves(curves)
    parting = Parting(curves)
    edges = [edge for edge in edges_of(parting) if not is_whole_circle(parting, edge)]
    many = many_faces(parting)
    holes = sum([holes_in(parting, face) for face in range(many)])
    return len(parting.corners) - len(edges) + many - holes


def is_whole_circle(parting, edge):
    """Whether an edge is a whole circle without a corner."""
    index, start, _, _, _ = edge
    return parting.curves[index][0] == "circle" and start is None
