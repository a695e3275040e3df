"""How far figures are from points, and how far they reach (DOC.md [45] and [46])."""

from planehall.curves import check_point, check_way
from planehall.errors import NothingInside
from planehall.figures import check_figure
from planehall.lines import place_along
from planehall.meaning import told_near
from planehall.measures import bounded_pieces
from planehall.meets import dot, value_at
from planehall.rimform import pieces_told
from planehall.shapes import forms, plain
from planehall.surds import add, compared, divide, negative, square_root, squared, subtract

NIL = (0, 1)
ONE = (1, 1)
MINUS = (-1, 1)


def gap(figure, point):
    """The least square of a distance from a point to a place that is not "out"; None if there is no such place."""
    place = nearest_place(figure, point)
    return None if place is None else square_between(point, place)


def nearest_place(figure, point):
    """A place, not "out", that is nearest to a point; None if there is none."""
    check_figure(figure)
    check_point(point)
    if not is_out(figure, point):
        return point
    pieces = pieces_told(figure)
    places = ends_of_pieces(pieces) + let_places(figure, [nearest_on(curve, point) for curve in curves_along(pieces)])
    return least_place(places, [square_between(point, place) for place in places])


def is_out(figure, place):
    curves = forms(figure)
    return told_near(plain(figure, curves), curves, place) == "out"


def square_between(place, other):
    """The square of the distance of two places of one field."""
    return add(squared(subtract(place[0], other[0])), squared(subtract(place[1], other[1])))


def curves_along(pieces):
    """The list of the curves of some pieces, each once."""
    return list({piece[0]: True for piece in pieces})


def ends_of_pieces(pieces):
    """The list of the places at which some pieces end."""
    return [place for _, _, start, stop in pieces for place in (start, stop) if place is not None]


def let_places(figure, places):
    """The list of those places that are not "out": any of these may be told, on a piece or not."""
    return [place for place in places if not is_out(figure, place)]


def least_place(places, numbers):
    """The place with the least number; None if there is none."""
    best = None
    for k in range(len(places)):
        if best is None or compared(numbers[k], numbers[best]) < 0:
            best = k
    return None if best is None else places[best]


def nearest_on(curve, point):
    """The place of a curve that is nearest to a point."""
    kind, a, b, _ = curve
    if kind == "line":
        return place_along(point, (a, b), negative(divide(value_at(curve, point), dot((a, b), (a, b)))))
    way = (subtract(point[0], a), subtract(point[1], b))
    # From the centre all places are as far as the rightmost one.
    return farthest_on(curve, (ONE, NIL) if way == (NIL, NIL) else way)


def farthest_on(circle, way):
    """The place of a circle that is farthest along a way."""
    _, x, y, square = circle
    return place_along((x, y), way, square_root(divide(square, dot(way, way))))


def reach(figure, way):
    """The greatest a x + b y, along a way (a, b), of the places of a bounded figure that are not "out"."""
    return dot(way, farthest_place(figure, way))


def farthest_place(figure, way):
    """A place, not "out", that is farthest along a way."""
    check_figure(figure)
    check_way(way)
    return farthest_of(figure, pieces_with_inside(figure), way)


def pieces_with_inside(figure):
    """The pieces of a bounded figure, NothingInside being raised for one that has none."""
    pieces = bounded_pieces(figure)
    if not pieces:
        raise NothingInside()
    return pieces


def farthest_of(figure, pieces, way):
    circles = [curve for curve in curves_along(pieces) if curve[0] == "circle"]
    places = ends_of_pieces(pieces) + let_places(figure, [farthest_on(circle, way) for circle in circles])
    return least_place(places, [negative(dot(way, place)) for place in places])


def box_around(figure):
    """(LEFT, RIGHT, BOTTOM, TOP) of the least box around a bounded figure."""
    check_figure(figure)
    pieces = pieces_with_inside(figure)
    ways = ((MINUS, NIL), (ONE, NIL), (NIL, MINUS), (NIL, ONE))
    left, right, bottom, top = [farthest_of(figure, pieces, way) for way in ways]
    return (left[0], right[0], bottom[1], top[1])
