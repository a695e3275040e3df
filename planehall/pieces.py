"""The pieces around what is in on some faces of a chart, without checks (DOC.md [15]).

truths tell for each face of the chart whether it is in. A piece is told by
indexes as (INDEX, IS_INSIDE, FROM, TO, FACE): those of its curve, of the corners
at its ends, None where there is none, and of a face along it that is in.
"""

from planehall.parting import edges_of, points_of_faces
from planehall.shapes import plain, row_at, truth_of


def truths_of(figure, parting):
    """The list of whether a figure is in on each face of the chart of its curves."""
    told = plain(figure, parting.curves)
    return [truth_of(told, row_at(parting.curves, point)) for point in points_of_faces(parting)]


def is_on_rim(edge, truths):
    return truths[edge[3]] != truths[edge[4]]


def pieces_around(parting, truths):
    """The list of all pieces, in the order of a rim form."""
    rim = [directed(parting.curves, edge, truths) for edge in edges_of(parting) if is_on_rim(edge, truths)]
    # Curves and corners are ascending in the chart, so pieces are so by their indexes.
    return sorted(pieces_of(rim), key=piece_order)


def directed(curves, edge, truths):
    """A rim edge as a piece, with in on the left."""
    index, start, stop, inside, outside = edge
    curve, is_inside = curves[index], truths[inside]
    face = inside if is_inside else outside
    # To the right and up is along (- b, a) unless b is above 0; turning left has the inside on the left.
    has_inside_left = curve[0] == "circle" or curve[2][0] <= 0
    if has_inside_left == is_inside:
        return (index, is_inside, start, stop, face)
    return (index, is_inside, stop, start, face)


def passed_corners(rim):
    """The dict of the corners over which two rim edges of one curve follow one another, no other one ending there."""
    ends = {}
    for index, is_inside, start, stop, _ in rim:
        for corner in (start, stop):
            if corner is not None:
                ends.setdefault(corner, []).append((index, is_inside))
    return {corner: True for corner, told in ends.items() if told == [told[0], told[0]]}


def pieces_of(rim):
    """The list of the longest rows of rim edges."""
    passed = passed_corners(rim)
    onward = {(index, is_inside, start): stop for index, is_inside, start, stop, _ in rim if start in passed}
    pieces = []
    for index, is_inside, start, stop, face in rim:
        if start not in passed:
            end = stop
            while end in passed:
                end = onward.pop((index, is_inside, end))
            pieces.append((index, is_inside, start, end, face))
    # What no beginning leads to goes round a circle: all of it is one piece without ends.
    whole = {edge[:2]: edge[4] for edge in rim if edge[:3] in onward}
    return pieces + [(index, is_inside, None, None, face) for (index, is_inside), face in whole.items()]


def piece_order(piece):
    index, is_inside, start, _, _ = piece
    return (index, is_inside, -1 if start is None else start)


def placed(parting, piece):
    """A piece of a rim form for a piece by indexes."""
    index, is_inside, start, stop, _ = piece
    places = [None if corner is None else parting.corners[corner] for corner in (start, stop)]
    return (parting.curves[index], is_inside, places[0], places[1])
