"""Rims, bodies and holes of figures and of faces ([36] to [39])."""

import random
import unittest
from fractions import Fraction
from functools import lru_cache
from math import atan2, cos, pi, sin

from planehall import errors
from planehall.chart import corners, edges, faces, locate, touching
from planehall.curves import crossings
from planehall.figures import curves_of
from planehall.meaning import telling
from planehall.rimform import rim_form
from planehall.rims import all_bounded, bodies, face_holes, face_is_bounded, face_rims, next_piece, rims, round_number
from tests.helpers import FLOOR, NIL, POST, RING, Told, circle, decimal, kind_of, line, point, raised
from tests.oracle import (
    ALL, BOWL, DISC, LOW, NONE, SLIVER, SQUARE, TWO_DISCS, TWO_HALVES, WEDGE, box, disc, half, is_in, moved, some_curves, some_right_figure,
)

STRIP = ("common", half(1, 0, 1), half(-1, 0, 1))
ODD = ("join", ("less", DISC, LOW), ("less", LOW, DISC))
HOLLOW = ("less", DISC, disc(Fraction(1, 2), 0, Fraction(1, 4)))
RINGS = ("join", ("less", disc(0, 0, 16), disc(0, 0, 9)), ("less", disc(0, 0, 4), disc(0, 0, 1)))
CHESS = ("join", SQUARE, box(1, 1, 2, 2))
BY_HAND = (
    ALL, NONE, DISC, LOW, SQUARE, WEDGE, BOWL, SLIVER, TWO_DISCS, TWO_HALVES, STRIP, ODD, HOLLOW, RINGS, CHESS, ("outside", STRIP), ("outside", RINGS),
    ("outside", CHESS), ("less", LOW, disc(0, -3, 1)), ("join", DISC, half(-1, 0, -1)), ("less", box(-3, -3, 3, 3), TWO_DISCS),
    ("less", disc(0, 0, 4), ("join", disc(1, 0, 1), disc(-1, 0, 1))), ("common", half(1, 1, 0), half(-1, 2, 0)),
    # Whole circles that lines and circles of the rim would cross, if these went on.
    ("join", DISC, ("common", LOW, half(1, 0, -5))), ("join", ("less", disc(0, 0, 4), DISC), ("common", LOW, half(1, 0, -5))),
    ("outside", ("join", DISC, ("common", disc(2, 0, 4), half(-1, 0, -3)))), ("join", ("less", DISC, disc(0, 0, Fraction(1, 4))), ("common", disc(2, 0, 4), half(-1, 0, -3))),
    ("less", ("less", box(-9, -9, 9, 9), ("common", LOW, half(1, 0, -5))), ("less", disc(0, 0, 4), DISC)),
)


def floats(place):
    return tuple(float(decimal(number)) for number in place)


def arm_angle(piece, spot, does_set_out, far):
    """The angle of the place of a piece that is so far from its end, seen from there; the turn of the way alone if far is 0."""
    curve, is_inside, _, _ = piece
    a, b, c = [float(decimal(part)) for part in curve[1:]]
    is_left = is_inside == does_set_out
    x, y = (a, b) if curve[0] == "line" else (spot[0] - a, spot[1] - b)
    way = atan2(x, -y) if is_left else atan2(-x, y)
    if curve[0] == "line":
        return way
    # A chord of a circle leans inwards by half of the angle that it spans.
    lean = far / (2 * c ** 0.5)
    return way + (lean if is_left else -lean)


def next_by_angles(form, index, far):
    """The piece next to turning right, and the angle half way between, by angles in floats."""
    place = form[index][3]
    spot = floats(place)
    own = arm_angle(form[index], spot, False, far)
    found = []
    for k, piece in enumerate(form):
        for does_set_out, end in ((True, piece[2]), (False, piece[3])):
            if end == place and (k, does_set_out) != (index, False):
                turn = (own - arm_angle(piece, spot, does_set_out, far)) % (2 * pi)
                found.append((turn, k, does_set_out))
    turn, k, does_set_out = min(found)
    return k, does_set_out, own - turn / 2


@lru_cache(maxsize=4)
def far_faces(curves):
    """The faces that a circle far out meets, between its crossings with lines."""
    far = circle(0, 0, 10 ** 8)
    turns = sorted(atan2(*reversed(floats(place))) for curve in curves for place in crossings(curve, far))
    turns = turns + [turns[0] + 2 * pi] if turns else [0, 1]
    found = set()
    for first, second in zip(turns, turns[1:]):
        turn = (first + second) / 2
        kind, index = locate(curves, point(Fraction(10 ** 4 * cos(turn)), Fraction(10 ** 4 * sin(turn))))
        assert kind == "face"
        found.add(index)
    return found


class Lots:
    """Lots of values that hang together."""

    def __init__(self, values):
        self.of = {value: value for value in values}

    def first(self, value):
        while self.of[value] != value:
            value = self.of[value]
        return value

    def join(self, value, other):
        self.of[self.first(value)] = self.first(other)

    def lots(self):
        found = {}
        for value in self.of:
            found.setdefault(self.first(value), set()).add(value)
        return list(found.values())


@lru_cache(maxsize=4)
def cells_of(curves):
    """All corners, edges and faces, the pairs of those that touch, and the faces at each corner."""
    pairs = []
    told = edges(curves)
    for k, (_, start, stop, inside, outside) in enumerate(told):
        pairs += [(("edge", k), ("face", inside)), (("edge", k), ("face", outside))]
        pairs += [(("edge", k), ("corner", end)) for end in (start, stop) if end is not None]
    around = [set(touching(curves, k)) for k in range(len(corners(curves)))]
    for k, near in enumerate(around):
        pairs += [(("corner", k), ("face", face)) for face in near]
    cells = [(kind, k) for kind, many in (("corner", len(corners(curves))), ("edge", len(told)), ("face", len(faces(curves)))) for k in range(many)]
    return cells, pairs, around


def bodies_by_cells(curves, are_in):
    """For faces that are in the lots of their faces, each with whether it is bounded and how many holes it has."""
    cells, pairs, around = cells_of(curves)
    far = far_faces(curves)
    sides = [(edge[3], edge[4]) for edge in edges(curves)]
    lots = Lots([k for k, is_so in enumerate(are_in) if is_so])
    for inside, outside in sides:
        if are_in[inside] and are_in[outside]:
            lots.join(inside, outside)
    found = {}
    for body in lots.lots():
        held = {("face", k) for k in body} | {("edge", k) for k, pair in enumerate(sides) if set(pair) <= body}
        held |= {("corner", k) for k, near in enumerate(around) if near <= body}
        rest = Lots([cell for cell in cells if cell not in held])
        for first, second in pairs:
            if first in rest.of and second in rest.of:
                rest.join(first, second)
        holes = [lot for lot in rest.lots() if not lot & {("face", k) for k in far}]
        found[frozenset(body)] = (not body & far, len(holes))
    return found


class Figures(Told, unittest.TestCase):
    """What the document says of the rims and bodies of all figures."""

    def check(self, figure):
        form = rim_form(figure)
        form = () if form in ("all", "none") else form
        told = rims(figure)
        self.check_kinds(told)
        self.check_rows(figure, form, told)
        for index in range(len(form)):
            self.check_next(figure, form, index)
        self.check_bodies(figure, form, told)

    def check_kinds(self, told):
        self.assertIs(kind_of(told), tuple)
        for rim in told:
            self.assertEqual([kind_of(part) for part in rim], [bool, tuple])
            self.assertEqual({kind_of(index) for index in rim[1]}, {int})
        self.assertEqual([indexes for _, indexes in told], sorted(indexes for _, indexes in told))

    def check_rows(self, figure, form, told):
        self.assertEqual(sorted(index for _, indexes in told for index in indexes), list(range(len(form))))
        for is_closed, indexes in told:
            following = [next_piece(figure, index) for index in indexes]
            if is_closed:
                self.assertEqual(indexes[0], min(indexes))
                self.assertEqual(following, list(indexes[1:] + indexes[:1]))
            else:
                self.assertEqual(following, list(indexes[1:]) + [None])
                self.assertIs(form[indexes[0]][2], None)
                self.assertIs(form[indexes[-1]][3], None)

    def check_next(self, figure, form, index):
        found = next_piece(figure, index)
        curve, _, start, stop = form[index]
        if stop is None:
            self.assert_plain(found, index if curve[0] == "circle" else None)
            return
        self.assertEqual(form[found][2], stop)
        far = 1e-4
        wanted, does_set_out, turn = next_by_angles(form, index, far)
        self.assertTrue(does_set_out)
        self.assert_plain(found, wanted)
        # What is between is in: half way between both arms, as far from the corner as these were told.
        x, y = floats(stop)
        self.assertTrue(is_in(figure, Fraction(x + far * cos(turn)), Fraction(y + far * sin(turn))))

    def check_bodies(self, figure, form, told):
        curves = curves_of(figure)
        are_in = [telling(figure, place) == "in" for place in faces(curves)]
        wanted = bodies_by_cells(curves, are_in)
        found = bodies(figure)
        self.assertIs(kind_of(found), tuple)
        self.assertEqual([row for _, row, _, _ in found], sorted(row for _, row, _, _ in found))
        self.assertEqual(sorted(k for _, row, _, _ in found for k in row), list(range(len(told))))
        seen = {}
        for place, row, is_bounded, holes in found:
            self.assertEqual([kind_of(part) for part in (place, row, is_bounded, holes)], [tuple, tuple, bool, int])
            self.assertEqual(telling(figure, place), "in")
            body = self.body_at(curves, wanted, place)
            seen[body] = True
            self.assertEqual((is_bounded, holes), wanted[body])
            self.assertEqual(holes, len([k for k in row if told[k][0]]) - is_bounded)
            self.check_along(curves, form, [index for k in row for index in told[k][1]], body)
        self.assertEqual(set(seen), set(wanted))
        self.assertIs(all_bounded(figure), all(is_bounded for _, _, is_bounded, _ in found))

    def body_at(self, curves, wanted, place):
        """The body in which a place is, which may be on needless curves."""
        kind, index = locate(curves, place)
        near = {"face": lambda: (index,), "edge": lambda: edges(curves)[index][3:], "corner": lambda: touching(curves, index)}[kind]()
        return [body for body in wanted if set(near) <= body][0]

    def check_along(self, curves, form, indexes, body):
        """Just left of the middle of a piece one is in its body."""
        for index in indexes:
            (x, y), turn = middle_of_piece(form[index])
            left = point(Fraction(x - 1e-6 * sin(turn)), Fraction(y + 1e-6 * cos(turn)))
            kind, face = locate(curves, left)
            if kind == "face" and face not in body:
                # So near to the middle another curve can pass: then it must pass indeed.
                self.assertTrue(is_near_corner(curves, (x, y)), (form[index], left))

    def test_by_hand(self):
        for figure in BY_HAND:
            self.check(figure)

    def test_many_figures(self):
        chance = random.Random(101)
        for deep, times in ((2, 30), (3, 40), (4, 30), (5, 10)):
            for _ in range(times):
                self.check(some_right_figure(chance, deep, 7))

    def test_figures_through_one_corner(self):
        """Many curves through (0, 0), of which many leave along one way."""
        chance = random.Random(102)
        discs = [disc(x, y, x * x + y * y) for x, y in ((1, 0), (2, 0), (-1, 0), (-3, 0), (0, 1), (0, -2), (1, 1), (2, 2))]
        halves = [half(a, b, 0) for a, b in ((1, 0), (0, 1), (-1, 0), (1, 1), (1, -1))]
        for _ in range(60):
            figure = chance.choice(discs)
            for _ in range(chance.randint(1, 4)):
                figure = (chance.choice(("join", "less", "common", "less")), figure, chance.choice(discs + halves))
                if chance.random() < 0.3:
                    figure = ("outside", figure)
            # Either one or the other: each curve is a rim, with in on both sides by turns.
            other = chance.choice(discs + halves)
            self.check(("join", ("less", figure, other), ("less", other, figure)))

    def test_figures_that_are_one(self):
        chance = random.Random(103)
        for _ in range(40):
            first, second = some_right_figure(chance, 3, 5), some_right_figure(chance, 2, 4)
            for other in (
                ("join", first, ("common", first, second)), ("common", first, ("join", second, first)), ("outside", ("outside", first)),
                ("join", ("less", first, second), ("common", second, first)), ("repeat", 3, (NIL, NIL), first), moved(1, 2, moved(-1, -2, first)),
            ):
                self.assert_plain(rims(other), rims(first))
                self.assert_plain(bodies(other), bodies(first))


def middle_of_piece(piece):
    """A spot on a piece, off its ends, and the way along it there as an angle."""
    curve, is_inside, start, stop = piece
    a, b, c = [float(decimal(part)) for part in curve[1:]]
    if curve[0] == "line":
        turn = atan2(a, -b) if is_inside else atan2(-a, b)
        ends = [floats(place) for place in (start, stop) if place is not None]
        length = (a * a + b * b) ** 0.5
        if len(ends) == 2:
            return ((ends[0][0] + ends[1][0]) / 2, (ends[0][1] + ends[1][1]) / 2), turn
        x, y = ends[0] if ends else (a * c / length ** 2, b * c / length ** 2)
        far = 0.1 if stop is None else -0.1
        return (x + far * cos(turn), y + far * sin(turn)), turn
    if start is None or start == stop:
        first = 0.3 if start is None else atan2(floats(start)[1] - b, floats(start)[0] - a)
        span = 2 * pi
    else:
        first, last = [atan2(y - b, x - a) for x, y in (floats(start), floats(stop))]
        span = (last - first if is_inside else first - last) % (2 * pi)
    turn = first + (span / 2 if is_inside else -span / 2)
    radius = c ** 0.5
    return (a + radius * cos(turn), b + radius * sin(turn)), turn + (pi / 2 if is_inside else -pi / 2)


def is_near_corner(curves, spot):
    return any(abs(x - spot[0]) + abs(y - spot[1]) < 1e-3 for x, y in map(floats, corners(curves)))


class ByHand(Told, unittest.TestCase):
    def test_without_a_rim(self):
        for figure in (ALL, TWO_HALVES, ("outside", SLIVER)):
            self.assert_plain(rims(figure), ())
            self.assert_plain([body[1:] for body in bodies(figure)], [((), False, 0)])
            self.assertIs(all_bounded(figure), False)
        for figure in (NONE, SLIVER, ("outside", ALL)):
            self.assert_plain(rims(figure), ())
            self.assert_plain(bodies(figure), ())
            self.assertIs(all_bounded(figure), True)

    def test_lines(self):
        self.assert_plain(rims(STRIP), ((False, (0,)), (False, (1,))))
        self.assert_plain([body[1:] for body in bodies(STRIP)], [((0, 1), False, 0)])
        self.assert_plain([body[1:] for body in bodies(("outside", STRIP))], [((0,), False, 0), ((1,), False, 0)])
        # A quarter: from the floor's right end in to the corner, and out along the post.
        quarter = ("common", half(0, -1, 0), half(-1, 0, 0))
        self.assertEqual([piece[2:] for piece in rim_form(quarter)], [((NIL, NIL), None), (None, (NIL, NIL))])
        self.assert_plain(rims(quarter), ((False, (1, 0)),))
        self.assert_plain([next_piece(quarter, k) for k in (0, 1)], [None, 0])
        # Two quarters at one corner: each goes in and out alone.
        both = ("join", quarter, ("common", LOW, half(1, 0, 0)))
        self.assert_plain(rims(both), ((False, (2, 0)), (False, (3, 1))))
        self.assert_plain([body[1:] for body in bodies(both)], [((0,), False, 0), ((1,), False, 0)])

    def test_circles(self):
        self.assert_plain(rims(DISC), ((True, (0,)),))
        self.assert_plain(next_piece(DISC, 0), 0)
        self.assert_plain(next_piece(("outside", DISC), 0), 0)
        self.assert_plain([body[1:] for body in bodies(("outside", DISC))], [((0,), False, 1)])
        # Two discs that touch: each goes round alone; what is outside of both goes round both, in one rim.
        self.assert_plain(rims(TWO_DISCS), ((True, (0,)), (True, (1,))))
        self.assert_plain([body[1:] for body in bodies(TWO_DISCS)], [((0,), True, 0), ((1,), True, 0)])
        self.assert_plain(rims(("outside", TWO_DISCS)), ((True, (0, 1)),))
        self.assert_plain([body[1:] for body in bodies(("outside", TWO_DISCS))], [((0,), False, 1)])
        # One within the other, touching: what is between is one body, without a hole.
        self.assert_plain(rims(HOLLOW), ((True, (0, 1)),))
        self.assert_plain([body[1:] for body in bodies(HOLLOW)], [((0,), True, 0)])
        self.assert_plain([body[1:] for body in bodies(("outside", HOLLOW))], [((0,), False, 1), ((1,), True, 0)])

    def test_body_within_a_hole(self):
        self.assert_plain(rims(RINGS), ((True, (0,)), (True, (1,)), (True, (2,)), (True, (3,))))
        self.assert_plain([body[1:] for body in bodies(RINGS)], [((0, 1), True, 1), ((2, 3), True, 1)])
        self.assert_plain([body[1:] for body in bodies(("outside", RINGS))], [((0,), True, 0), ((1, 2), True, 1), ((3,), False, 1)])
        self.assertIs(all_bounded(RINGS), True)
        self.assertIs(all_bounded(("outside", RINGS)), False)

    def test_squares_at_one_corner(self):
        self.assert_plain([body[1:] for body in bodies(CHESS)], [((0,), True, 0), ((1,), True, 0)])
        self.assertEqual(len(rims(("outside", CHESS))), 1)
        self.assert_plain([body[1:] for body in bodies(("outside", CHESS))], [((0,), False, 1)])
        # Four squares round one in the middle, at its corners: the middle one is a hole of none of them.
        four = ("less", box(0, 0, 3, 3), box(1, 1, 2, 2))
        self.assert_plain([body[1:] for body in bodies(four)], [((0, 1), True, 1)])
        cross = ("join", ("join", box(0, 0, 1, 1), box(1, 1, 2, 2)), ("join", box(2, 0, 3, 1), box(1, -1, 2, 0)))
        self.assert_plain([body[1:] for body in bodies(cross)], [((k,), True, 0) for k in range(4)])
        self.assert_plain([body[1:] for body in bodies(("outside", cross))], [((0,), False, 1), ((1,), True, 0)])

    def test_more_on_the_left_is_more_bent(self):
        # At (0, 0) all leave upwards: the circles on the left bend to it, the lesser ones more.
        eyes = ("less", ("less", disc(-3, 0, 9), disc(-2, 0, 4)), NONE)
        crescent = ("join", eyes, disc(-1, 0, 1))
        self.assertEqual(len(rim_form(crescent)), 3)
        self.assert_plain([body[1:] for body in bodies(crescent)], [((0,), True, 0), ((1,), True, 0)])
        self.assert_plain(rims(crescent), ((True, (0, 1)), (True, (2,))))

    def test_indexes(self):
        for figure, many in ((SQUARE, 4), (DISC, 1), (ALL, 0), (NONE, 0), (SLIVER, 0), (LOW, 1), (CHESS, 8)):
            for index in range(many):
                self.assertIsNone(raised(next_piece, figure, index))
            for index in (-1, many, many + 1, True, False, None, "0", (0,), 10 ** 400):
                self.assert_given(errors.InvalidIndex, index, next_piece, figure, index)
        self.assert_given(errors.InvalidFigure, "all", next_piece, "all", -1)


class Faces(Told, unittest.TestCase):
    def check(self, curves):
        many = len(faces(curves))
        far = far_faces(curves)
        holes = 0
        for face in range(many):
            wanted = bodies_by_cells(curves, [face == other for other in range(many)])
            self.assertEqual(list(wanted.values()), [(face not in far, face_holes(curves, face))])
            self.assert_plain(face_is_bounded(curves, face), face not in far)
            closed, endless = face_rims(curves, face)
            self.assert_plain(face_rims(curves, face), (closed, endless))
            self.assert_plain(face_holes(curves, face), closed - (face not in far))
            self.assertTrue(face in far or endless == 0)
            holes += face_holes(curves, face)
        whole = [edge for edge in edges(curves) if edge[1] is None and curves[edge[0]][0] == "circle"]
        self.assertEqual(len(corners(curves)) - (len(edges(curves)) - len(whole)) + many - holes, 1)
        self.assert_plain(round_number(curves), 1)

    def test_by_hand(self):
        wide = circle(0, 0, 4)
        for curves in (
            (), (RING,), (FLOOR,), (POST,), (FLOOR, POST), (RING, FLOOR), (RING, wide), (wide, RING), (RING, line(1, 0, 1)), (RING, line(1, 0, 2)),
            (line(0, 1, 1), line(0, 1, 2)), (line(1, 0, 1), line(1, 0, 2), FLOOR), (RING, circle(5, 0, 1), circle(2, 0, 25)), (RING, circle(2, 0, 1)),
            (RING, circle(2, 0, 1), circle(1, 2, 1)), (wide, circle(1, 0, 1), circle(-1, 0, 1)), (line(1, 1, 0), line(1, -1, 0), line(1, 0, 3), RING),
        ):
            self.check(curves)

    def test_told_by_hand(self):
        wide = circle(0, 0, 4)
        nested = (RING, wide, circle(5, 0, 1))
        self.assert_plain([face_rims((), 0), face_is_bounded((), 0), face_holes((), 0), round_number(())], [(0, 0), False, 0, 1])
        self.assertEqual(sorted(face_rims(nested, face) for face in range(4)), [(1, 0), (1, 0), (2, 0), (2, 0)])
        self.assertEqual(sorted(face_holes(nested, face) for face in range(4)), [0, 0, 1, 2])
        self.assertEqual([face_is_bounded(nested, face) for face in range(4)].count(False), 1)
        self.assertEqual(sorted(face_rims((FLOOR, line(0, 1, 1)), face) for face in range(3)), [(0, 1), (0, 1), (0, 2)])
        self.assertEqual(sorted(face_rims((RING, POST, line(1, 0, 9)), face) for face in range(5)), [(0, 1), (0, 1), (0, 2), (1, 0), (1, 0)])
        # Three circles that touch each other: what is between them is a face of its own, of one rim.
        three = (circle(0, 0, 1), circle(2, 0, 1), circle(1, 2, Fraction(6) - 0))
        self.assertEqual(round_number(three), 1)

    def test_many(self):
        chance = random.Random(104)
        for many in range(1, 7):
            for _ in range(12 if many < 5 else 5):
                self.check(some_curves(chance, many))

    def test_round_number_of_nine(self):
        chance = random.Random(105)
        for _ in range(4):
            self.assert_plain(round_number(some_curves(chance, 9)), 1)
        rings = tuple(circle(0, 0, k * k) for k in range(1, 10))
        self.assert_plain([round_number(rings), face_holes(rings, 0), face_is_bounded(rings, 0)], [1, 1, False])
        apart = tuple(circle(9 * k, 0, 1) for k in range(9))
        self.assert_plain([round_number(apart), face_holes(apart, 0)], [1, 9])


if __name__ == "__main__":
    unittest.main()
