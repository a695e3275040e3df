"""Areas, lengths, angles, moments and centres (DOC.md [40] to [43])."""

from planehall.compare import is_bounded
from planehall.curves import check_way
from planehall.errors import InvalidNumber, NotBounded, NothingInside, NotStraight
from planehall.figures import check_figure
from planehall.held import hold_angle, hold_distance, hold_root, hold_rounds, narrowed, opposite
from planehall.held import product_of, share_of, sum_of
from planehall.meets import ORIGIN, compared_around, cross, dot
from planehall.rimform import pieces_told
from planehall.rootsums import are_of_one_kind, roots_of_half_cross, sum_of_roots
from planehall.roots import check_many, is_fraction
from planehall.surds import add, compared, divide, multiply, subtract

ONE = (1, 1)
MINUS = (-1, 1)


def is_roots(value):
    """Whether a value, whatever it is, is roots: fractions of which the roots have no other such sum."""
    if not isinstance(value, tuple) or not all([is_fraction(part) and part[0] != 0 for part in value]):
        return False
    if not all([compared(value[k], value[k + 1]) < 0 for k in range(len(value) - 1)]):
        return False
    return not any([are_of_one_kind(part, other) for k, part in enumerate(value) for other in value[:k]])


def check_roots(roots):
    if not is_roots(roots):
        raise InvalidNumber(roots)


def roots_plus(roots, other_roots):
    """The sum of two roots."""
    check_roots(roots)
    check_roots(other_roots)
    return sum_of_roots(roots + other_roots)


def bounded_pieces(figure):
    """The tuple of the pieces of a figure, which is checked, NotBounded being raised for one that is not bounded."""
    if not is_bounded(figure):
        raise NotBounded()
    return pieces_told(figure)


def straight_part(figure):
    """The roots that are the straight part of a bounded figure's area."""
    return straight_part_of(bounded_pieces(figure))


def straight_part_of(pieces):
    fractions = []
    for curve, _, start, stop in pieces:
        if curve[0] == "line":
            fractions += roots_of_half_cross(start, stop, ONE)
        elif start != stop:
            fractions += roots_of_half_cross(curve[1:3], stop, ONE) + roots_of_half_cross(curve[1:3], start, MINUS)
    return sum_of_roots(fractions)


def area_between(figure, many):
    """A pair of fractions, at most 1 over many apart, between which a bounded figure's area is."""
    check_figure(figure)
    check_many(many)
    pieces = bounded_pieces(figure)
    roots = straight_part_of(pieces)
    return narrowed(lambda bits: hold_area(pieces, roots, bits), many)


def hold_area(pieces, roots, bits):
    pairs = []
    for top, bottom in roots:
        pair = hold_root((abs(top), bottom), bits)
        pairs.append(pair if top > 0 else opposite(pair))
    for piece in pieces:
        curve, is_inside, _, _ = piece
        if curve[0] == "circle":
            share = divide(curve[3], (2, 1) if is_inside else (-2, 1))
            pairs.append(share_of(hold_turn(piece, bits), share))
    return sum_of(pairs)


def hold_turn(piece, bits):
    """The angle of a piece on a circle."""
    circle, is_inside, start, stop = piece
    if start == stop:
        return hold_rounds(4, bits)
    if not is_inside:
        start, stop = stop, start
    first, last = hold_angle(way_from_centre(circle, start), bits), hold_angle(way_from_centre(circle, stop), bits)
    # Where one passes the rightmost place, the angle there begins anew.
    quarters = 4 if compared_around(circle, start, stop) > 0 else 0
    return sum_of([last, opposite(first), hold_rounds(quarters, bits)])


def way_from_centre(circle, place):
    return (subtract(place[0], circle[1]), subtract(place[1], circle[2]))


def length_between(figure, many):
    """A pair of fractions, at most 1 over many apart, between which the length of a bounded figure's rim is."""
    check_figure(figure)
    check_many(many)
    pieces = bounded_pieces(figure)
    return narrowed(lambda bits: sum_of([hold_length(piece, bits) for piece in pieces]), many)


def hold_length(piece, bits):
    curve, _, start, stop = piece
    if curve[0] == "line":
        return hold_distance(start, stop, bits)
    low, high = hold_turn(piece, bits)
    return product_of((max(low, 0), high), hold_root(curve[3], bits), bits)


def angle_between(way, other_way, many):
    """A pair of fractions, at most 1 over many apart, between which the angle from one way left to another one is."""
    check_way(way)
    check_way(other_way)
    check_many(many)
    turned = (dot(way, other_way), cross(way[0], way[1], other_way[0], other_way[1]))
    return narrowed(lambda bits: hold_angle(turned, bits), many)


def is_straight(figure):
    """Whether no piece of a figure's rim is on a circle."""
    return not [curve for curve, _, _, _ in pieces_told(figure) if curve[0] == "circle"]


def check_straight(figure):
    if not is_straight(figure):
        raise NotStraight()


def moments(figure):
    """(AREA, FIRST, SECOND) of a bounded straight figure."""
    pieces = bounded_pieces(figure)
    check_straight(figure)
    return moments_of(pieces)


def moments_of(pieces):
    area, first, second = (0, 1), list(ORIGIN), [list(ORIGIN), list(ORIGIN)]
    for _, _, start, stop in pieces:
        twice = cross(start[0], start[1], stop[0], stop[1])
        both = (add(start[0], stop[0]), add(start[1], stop[1]))
        area = add(area, divide(twice, (2, 1)))
        for i in (0, 1):
            first[i] = add(first[i], divide(multiply(twice, both[i]), (6, 1)))
            for j in (0, 1):
                products = [multiply(ends[i], ends[j]) for ends in (start, stop, both)]
                share = add(add(products[0], products[1]), products[2])
                second[i][j] = add(second[i][j], divide(multiply(twice, share), (24, 1)))
    return (area, tuple(first), tuple([tuple(row) for row in second]))


def centre(figure):
    """The centre of a bounded straight figure with something in it."""
    pieces = bounded_pieces(figure)
    if not pieces:
        raise NothingInside()
    check_straight(figure)
    area, first, _ = moments_of(pieces)
    return (divide(first[0], area), divide(first[1], area))
