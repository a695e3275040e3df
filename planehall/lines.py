"""What figures tell along lines (DOC.md [44])."""

from planehall.curves import check_point, check_way
from planehall.figures import check_figure
from planehall.meaning import told_near
from planehall.meets import numbers_along
from planehall.rimform import pieces_told
from planehall.roots import check_number
from planehall.shapes import forms, plain
from planehall.surds import add, compared, multiply, sign_of, subtract
from planehall.sweep import ascending, sample_of


def place_at(point, way, number):
    """The place that is so many times a way behind a point."""
    check_point(point)
    check_way(way)
    check_number(number)
    return place_along(point, way, number)


def place_along(point, way, number):
    return (add(point[0], multiply(number, way[0])), add(point[1], multiply(number, way[1])))


def walk(figure, point, way):
    """The pair of the breaks along a line, and of the tellings ahead of, at and between them."""
    check_figure(figure)
    check_point(point)
    check_way(way)
    return walk_of(figure, point, way)


def walk_of(figure, point, way):
    curves = forms(figure)
    told = plain(figure, curves)
    numbers = meeting_numbers(pieces_told(figure), point, way)
    at = [told_near(told, curves, place_along(point, way, number)) for number in numbers]
    samples = [sample_of(numbers, k) for k in range(len(numbers) + 1)]
    between = [told_near(told, curves, place_along(point, way, number)) for number in samples]
    breaks, tellings = [], [between[0]]
    for k, number in enumerate(numbers):
        if not between[k] == at[k] == between[k + 1]:
            breaks.append(number)
            tellings += [at[k], between[k + 1]]
    return (tuple(breaks), tuple(tellings))


def meeting_numbers(pieces, point, way):
    """The ascending list of the t at which a line meets curves of some pieces that do not contain it.

    Corners need not be told besides: at each one pieces of unlike curves end,
    of which only one contains the line.
    """
    found = {}
    for curve, _, _, _ in pieces:
        for number in numbers_along(curve, point, way):
            found[number] = True
    return ascending(list(found), compared)


def first_met(figure, point, way):
    """The least number from 0 on at which a figure does not tell "out" along a line; None if there is none."""
    check_figure(figure)
    check_point(point)
    check_way(way)
    curves = forms(figure)
    if told_near(plain(figure, curves), curves, point) != "out":
        return (0, 1)
    breaks, _ = walk_of(figure, point, way)
    # What is not "out" begins with a break; and each break tells "rim", as near all other places all tell the same.
    ahead = [number for number in breaks if sign_of(number) > 0]
    return ahead[0] if ahead else None


def is_clear(figure, point, other_point):
    """Whether a figure tells "out" at all places from one point to another one, at both, too."""
    check_figure(figure)
    check_point(point)
    check_point(other_point)
    if point == other_point:
        curves = forms(figure)
        return told_near(plain(figure, curves), curves, point) == "out"
    way = (subtract(other_point[0], point[0]), subtract(other_point[1], point[1]))
    number = first_met(figure, point, way)
    return number is None or compared(number, (1, 1)) > 0
