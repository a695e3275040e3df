"""Figures drawn by letters (DOC.md [34])."""

from planehall.curves import check_point
from planehall.errors import InvalidCount, InvalidPoint
from planehall.figures import check_figure
from planehall.meaning import told_near
from planehall.roots import is_whole
from planehall.shapes import are_of_box, forms, plain
from planehall.surds import add, multiply, reduced, subtract

MOST_LETTERS = 48
SIGNS = {"in": "#", "out": ".", "rim": "+"}


def letters(figure, low, high, count):
    """The tuple of rows of signs for what a figure tells within a box, the highest row first."""
    check_figure(figure)
    check_point(low)
    if not are_of_box(low, high):
        raise InvalidPoint(high)
    if not is_whole(count) or count < 1 or count > MOST_LETTERS:
        raise InvalidCount(count)
    curves = forms(figure)
    told = plain(figure, curves)
    wide = [middle_of(low[0], high[0], part, count) for part in range(count)]
    tall = [middle_of(high[1], low[1], part, count) for part in range(count)]
    return tuple(["".join([SIGNS[told_near(told, curves, (x, y))] for x in wide]) for y in tall])


def middle_of(start, stop, part, count):
    """The middle of one of so many alike parts from one number to another one."""
    share = reduced(2 * part + 1, 2 * count)
    return add(start, multiply(share, subtract(stop, start)))
