"""What figures tell at places, by the rows near them (DOC.md [17], [20] and [22])."""

from planehall.bends import near_rows
from planehall.curves import check_place
from planehall.figures import check_figure
from planehall.shapes import forms, plain, row_at, truth_of


def is_free(figure, place):
    """Whether a place is on none of a figure's curves."""
    check_figure(figure)
    check_place(place)
    return None not in row_at(forms(figure), place)


def telling(figure, place):
    """What a figure tells at a place: "in", "out" or "rim"."""
    check_figure(figure)
    check_place(place)
    curves = forms(figure)
    return told_near(plain(figure, curves), curves, place)


def told_near(told, curves, place):
    """The same for a plain and its CURVES, without checks."""
    truths = [truth_of(told, row) for row in near_rows(curves, place)]
    if all(truths):
        return "in"
    return "rim" if any(truths) else "out"
