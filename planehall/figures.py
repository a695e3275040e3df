"""Figures, and what they say by their curves alone (DOC.md [16] to [19])."""

from planehall.curves import MOST_CURVES, check_place
from planehall.errors import InvalidFigure, InvalidRow, TooMany
from planehall.shapes import bounds, depth, forms, has_form, plain, row_at, size, truth_of

MOST_DEEP = 12
MOST_SIZE = 200


def is_figure(value):
    """Whether a value, whatever it is, is a figure, neither too deep nor too much."""
    return has_form(value, MOST_DEEP) and excess_of(value) is None


def excess_of(figure):
    """How great the size of a figure is, or how many curves it has, if this is too many; None otherwise."""
    # The curves of a figure are counted only if its size is let: others may have billions of bounds.
    many = size(figure)
    if many <= MOST_SIZE:
        many = len(forms(figure))
        if many <= MOST_CURVES:
            return None
    return many


def check_figure(figure):
    if not has_form(figure, MOST_DEEP):
        raise InvalidFigure(figure)
    many = excess_of(figure)
    if many is not None:
        raise TooMany(many)


def check_figures(figure, other):
    check_figure(figure)
    check_figure(other)
    many = len(forms(("join", figure, other)))
    if many > MOST_CURVES:
        raise TooMany(many)


def check_row(row, many, lets_none):
    """Raises InvalidRow for what is no tuple of so many times True or False, or None if this is let."""
    if not isinstance(row, tuple) or len(row) != many:
        raise InvalidRow(None)
    for index, side in enumerate(row):
        if not isinstance(side, bool) and (side is not None or not lets_none):
            raise InvalidRow(index)


def depth_of(figure):
    """How deep a figure is."""
    check_figure(figure)
    return depth(figure)


def size_of(figure):
    """The size of a figure."""
    check_figure(figure)
    return size(figure)


def bounds_of(figure):
    """The tuple of all bounds of a figure, in order."""
    check_figure(figure)
    return bounds(figure)


def curves_of(figure):
    """The ascending tuple of the forms of all bounds of a figure, each once."""
    check_figure(figure)
    return forms(figure)


def plain_of(figure):
    """What a figure says by the sides of its curves alone."""
    check_figure(figure)
    return plain(figure, forms(figure))


def truth_at(figure, row):
    """The truth of a figure's plain at a row for its curves: True, False or None."""
    check_figure(figure)
    curves = forms(figure)
    check_row(row, len(curves), True)
    return truth_of(plain(figure, curves), row)


def row_of(figure, place):
    """The row of a place for a figure's curves: True inside, False outside, None on the curve."""
    check_figure(figure)
    check_place(place)
    return row_at(forms(figure), place)
