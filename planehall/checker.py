"""The checker of claims by their papers (DOC.md [35])."""

from planehall.curves import MOST_CURVES, check_curves, is_place, is_point
from planehall.errors import InvalidCurves
from planehall.figures import is_figure
from planehall.meaning import telling
from planehall.meets import ORIGIN, side_of
from planehall.papers import CONTRARY, DENIALS, centred, forms_together, have_all_rows, is_free_point, is_free_ray
from planehall.papers import plains_together, row_of_bend, truths_at, with_circle
from planehall.roots import is_fraction
from planehall.shapes import forms, plain, row_at, truth_of


def accepts(claim, paper):
    """Whether a value is a claim for the checker and another one a paper for it, whatever both are."""
    if not isinstance(claim, tuple) or not claim or not isinstance(claim[0], str):
        return False
    match claim:
        case ("in" | "out", figure, place):
            return is_figure(figure) and is_place(place) and is_blank(paper) and telling(figure, place) == claim[0]
        case ("rim", figure, place):
            return is_figure(figure) and is_place(place) and is_pair(paper) and show_rim(figure, place, paper)
        case ("bounded", figure):
            return is_figure(figure) and is_pair(paper) and show_bounded(figure, paper[0], paper[1])
        case ("not bounded", figure):
            return is_figure(figure) and is_pair(paper) and is_ray_in(figure, paper[0], paper[1])
        case ("rows", curves, rows):
            return are_curves(curves) and are_rows(rows) and show_rows(curves, rows, paper)
    return settle(claim[0], claim[1:], paper)


def is_blank(value):
    return isinstance(value, tuple) and not value


def is_pair(value):
    return isinstance(value, tuple) and len(value) == 2


def show_rim(figure, place, bends):
    """Whether a pair of values is of bends at a place, the figure being in on the first and out on the second one."""
    curves = forms(figure)
    told = plain(figure, curves)
    truths = []
    for bend in bends:
        row = row_of_bend(curves, place, bend) if is_bend(curves, place, bend) else None
        truths.append(None if row is None else truth_of(told, row))
    return truths == [True, False]


def is_bend(curves, place, value):
    """Whether a value, whatever it is, is a bend at a place."""
    if not isinstance(value, tuple) or len(value) != 3:
        return False
    curve, is_left, number = value
    if not isinstance(is_left, bool) or not is_fraction(number):
        return False
    # A value that equals a form need not be one: True equals 1.
    return are_curves((curve,)) and curve in curves and side_of(curve, place) == 0


def are_curves(value):
    """Whether a value, whatever it is, is a tuple of up to nine unlike forms of curves."""
    try:
        check_curves(value)
    except InvalidCurves:
        return False
    return True


def show_bounded(figure, square, points):
    """Whether two values are a fraction and samples that show a figure to be within a circle of this square."""
    if not is_fraction(square) or square[0] <= 0:
        return False
    curves, circle = forms(figure), centred(square)
    told, row_curves = plain(figure, curves), with_circle(curves, circle)
    if not have_all_rows(row_curves, points):
        return False
    within = row_curves.index(circle)
    rows = [row_at(row_curves, point) for point in points]
    return not [row for row in rows if truth_of(told, row) and not row[within]]


def is_ray_in(figure, point, way):
    """Whether two values are a point and a way along which all places are free and in a figure."""
    if not is_point(point) or not is_point(way) or way == ORIGIN:
        return False
    curves = forms(figure)
    return is_free_ray(curves, point, way) and truth_of(plain(figure, curves), row_at(curves, point))


def are_rows(value):
    """Whether a value, whatever it is, is a tuple of rows without None."""
    if not isinstance(value, tuple) or not all([isinstance(row, tuple) for row in value]):
        return False
    # A number can equal True or False and be neither.
    return all([isinstance(side, bool) for row in value for side in row])


def show_rows(curves, rows, points):
    """Whether a value is samples for some curves that have just the rows told, which are ascending."""
    if not have_all_rows(curves, points):
        return False
    return sorted({row_at(curves, point) for point in points}) == list(rows)


def settle(word, figures, paper):
    """Whether a claim of all free places, or of one that denies such a claim, is one and has a paper for it."""
    for told, denial in DENIALS.items():
        if word in (told, denial) and are_figures(figures, len(CONTRARY[told][0])):
            curves = forms_together(figures)
            plains = plains_together(figures, curves)
            if word == denial:
                return is_free_point(curves, paper) and truths_at(plains, row_at(curves, paper)) in CONTRARY[told]
            if not have_all_rows(curves, paper):
                return False
            truths = [truths_at(plains, row_at(curves, point)) for point in paper]
            return not [told_there for told_there in truths if told_there in CONTRARY[told]]
    return False


def are_figures(values, many):
    """Whether values are so many figures, together with no more curves than one may have."""
    if len(values) != many or not all([is_figure(value) for value in values]):
        return False
    return len(forms_together(values)) <= MOST_CURVES
