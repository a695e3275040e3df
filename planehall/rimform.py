"""The rim of figures, and the one form of each (DOC.md [14] and [15])."""

from planehall.curves import check_place
from planehall.figures import check_figure
from planehall.parting import Parting, edges_of, faces_around, location
from planehall.pieces import is_on_rim, pieces_around, placed, truths_of
from planehall.shapes import forms


def told_at(figure, place):
    """What a figure tells at a place, by the chart: "in", "out" or "rim"."""
    check_figure(figure)
    check_place(place)
    parting = Parting(forms(figure))
    truths = truths_of(figure, parting)
    told = [truths[face] for face in faces_at(parting, place)]
    if all(told):
        return "in"
    return "rim" if any(told) else "out"


def faces_at(parting, place):
    """The tuple of the faces that touch the corner, edge or face of a place."""
    kind, index = location(parting, place)
    if kind == "corner":
        return faces_around(parting, index)
    return edges_of(parting)[index][3:] if kind == "edge" else (index,)


def rim_edges(figure):
    """The ascending tuple of the indexes of the edges that are on the rim of a figure."""
    check_figure(figure)
    parting = Parting(forms(figure))
    truths = truths_of(figure, parting)
    return tuple([k for k, edge in enumerate(edges_of(parting)) if is_on_rim(edge, truths)])


def rim_form(figure):
    """The tuple of the pieces of a figure's rim, in order; "all" or "none" for one without a rim."""
    check_figure(figure)
    parting = Parting(forms(figure))
    truths = truths_of(figure, parting)
    pieces = pieces_around(parting, truths)
    if not pieces:
        return "all" if truths[0] else "none"
    return tuple([placed(parting, piece) for piece in pieces])


def pieces_told(figure):
    """The tuple of the pieces of a figure's rim, none for one without a rim."""
    form = rim_form(figure)
    return form if isinstance(form, tuple) else ()
