"""Claims for the checker that are so, with their papers (DOC.md [35])."""

from planehall.compare import ray_of
from planehall.figures import check_figure, check_figures
from planehall.meaning import telling
from planehall.papers import CONTRARY, DENIALS, bends_at, centred, forms_together, plains_together, points_by_row
from planehall.papers import row_of_bend, truths_at, with_circle
from planehall.rows import rows_of, samples_of
from planehall.shapes import forms, plain, truth_of
from planehall.surds import add, floor_of, square_root, subtract
from planehall.sweep import corners_of


def certify_telling(figure, place):
    """What a figure tells at a place."""
    word = telling(figure, place)
    return ((word, figure, place), rim_paper(figure, place) if word == "rim" else ())


def rim_paper(figure, place):
    """The pair of a bend at a place on which a figure is in, and one on which it is out."""
    curves = forms(figure)
    told = plain(figure, curves)
    found = {}
    for bend in bends_at(curves, place):
        found.setdefault(truth_of(told, row_of_bend(curves, place, bend)), bend)
    return (found[True], found[False])


def certify_empty(figure):
    """That a figure is empty, or not."""
    check_figure(figure)
    return certify("empty", (figure,))


def certify_same(figure, other):
    """That two figures are one, or not."""
    check_figures(figure, other)
    return certify("same", (figure, other))


def certify_within(figure, other):
    """That the first figure is within the other one, or not."""
    check_figures(figure, other)
    return certify("within", (figure, other))


def certify_apart(figure, other):
    """That two figures are apart, or not."""
    check_figures(figure, other)
    return certify("apart", (figure, other))


def certify(word, figures):
    """The claim with this word, or its denial, with its paper."""
    curves = forms_together(figures)
    plains = plains_together(figures, curves)
    samples = points_by_row(curves)
    for row, point in samples.items():
        if truths_at(plains, row) in CONTRARY[word]:
            return ((DENIALS[word], *figures), point)
    return ((word, *figures), tuple(samples.values()))


def certify_bounded(figure):
    """That a figure is bounded, or not."""
    ray = ray_of(figure)
    if ray is not None:
        return (("not bounded", figure), ray)
    curves = forms(figure)
    square = far_square(curves)
    samples = points_by_row(with_circle(curves, centred(square)))
    return (("bounded", figure), (square, tuple(samples.values())))


def far_square(curves):
    """A fraction above the square of each distance from (0, 0) to a corner or to a place on a circle."""
    numbers = [part for place, _ in corners_of(curves) for part in place]
    for kind, x, y, square in curves:
        if kind == "circle":
            radius = square_root(square)
            numbers += [subtract(x, radius), add(x, radius), subtract(y, radius), add(y, radius)]
    # A number is at most 1 farther from 0 than the greatest whole one up to it.
    most = 1 + max([abs(floor_of(number, 1)) for number in numbers], default=0)
    return (2 * most * most + 1, 1)


def certify_rows(curves):
    """Which rows free places have."""
    return (("rows", curves, rows_of(curves)), samples_of(curves))
