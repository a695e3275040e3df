"""The rim of figures, and the one form of each (DOC.md [14] and [15])."""

from planehall.curves import check_place
from planehall.figures import check_figure
from planehall.parting import Parting, edges_of, faces_around, location, points_of_faces
from planehall.shapes import forms, plain, row_at, truth_of


def truths_of(figure, parting):
    """The list of whether a figure is in on each face of the chart of its curves."""
    told = plain(figure, parting.curves)
    return [truth_of(told, row_at(parting.curves, point)) for point in points_of_faces(parting)]


def told_at(figure, place):
    """What a figure tells at a place, by the chart: "in", "out" or "rim"."""
    check_figure(figure)
    check_place(place)
    parting = Parting(forms(figure))
    truths = truths_of(figure, parting)
    told = [truths[face] for face in faces_at(parting, place)]
    if all(told):
        return "in"
    return "rim" if any(told) else "out"


def faces_at(parting, place):
    """The tuple of the faces that touch the corner, edge or face of a place."""
    kind, index = location(parting, place)
    if kind == "corner":
        return faces_around(parting, index)
    return edges_of(parting)[index][3:] if kind == "edge" else (index,)


def rim_edges(figure):
    """The ascending tuple of the indexes of the edges that are on the rim of a figure."""
    check_figure(figure)
    parting = Parting(forms(figure))
    truths = truths_of(figure, parting)
    return tuple([k for k, edge in enumerate(edges_of(parting)) if is_on_rim(edge, truths)])


def is_on_rim(edge, truths):
    return truths[edge[3]] != truths[edge[4]]


def rim_form(figure):
    """The tuple of the pieces of a figure's rim, in order; "all" or "none" for one without a rim."""
    check_figure(figure)
    parting = Parting(forms(figure))
    truths = truths_of(figure, parting)
    rim = [directed(parting.curves, edge, truths) for edge in edges_of(parting) if is_on_rim(edge, truths)]
    if not rim:
        return "all" if truths[0] else "none"
    # Curves and corners are ascending in the chart, so pieces are so by their indexes.
    pieces = sorted(pieces_of(rim), key=piece_order)
    return tuple([placed(parting, piece) for piece in pieces])


def directed(curves, edge, truths):
    """A rim edge as a piece by indexes (INDEX, IS_INSIDE, FROM, TO), with in on the left."""
    index, start, stop, inside, _ = edge
    curve, is_inside = curves[index], truths[inside]
    # To the right and up is along (- b, a) unless b is above 0; turning left has the inside on the left.
    has_inside_left = curve[0] == "circle" or curve[2][0] <= 0
    return (index, is_inside, start, stop) if has_inside_left == is_inside else (index, is_inside, stop, start)


def passed_corners(rim):
    """The dict of the corners over which two rim edges of one curve follow one another, no other one ending there."""
    ends = {}
    for index, is_inside, start, stop in rim:
        for corner in (start, stop):
            if corner is not None:
                ends.setdefault(corner, []).append((index, is_inside))
    return {corner: True for corner, told in ends.items() if told == [told[0], told[0]]}


def pieces_of(rim):
    """The list of the longest rows of rim edges, as pieces by indexes."""
    passed = passed_corners(rim)
    onward = {(index, is_inside, start): stop for index, is_inside, start, stop in rim if start in passed}
    pieces = []
    for index, is_inside, start, stop in rim:
        if start not in passed:
            end = stop
            while end in passed:
                end = onward.pop((index, is_inside, end))
            pieces.append((index, is_inside, start, end))
    # What no beginning leads to goes round a circle: all of it is one piece without ends.
    whole = {(index, is_inside): True for index, is_inside, _ in onward}
    return pieces + [(index, is_inside, None, None) for index, is_inside in whole]


def piece_order(piece):
    index, is_inside, start, _ = piece
    return (index, is_inside, -1 if start is None else start)


def placed(parting, piece):
    """A piece for a piece by indexes."""
    index, is_inside, *ends = piece
    start, stop = [None if corner is None else parting.corners[corner] for corner in ends]
    return (parting.curves[index], is_inside, start, stop)
