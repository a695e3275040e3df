"""How far figures are from points, and how far they reach ([45] and [46])."""

import random
import unittest
from fractions import Fraction
from math import atan2, cos, pi, sin

from planehall import errors
from planehall.compare import is_bounded, is_empty, is_within
from planehall.curves import is_place
from planehall.meaning import telling
from planehall.nearest import box_around, farthest_place, gap, nearest_place, reach
from planehall.rimform import rim_form
from planehall.roots import is_number, less, order, plus, root_of, times
from tests.helpers import FOUR, HALF, MINUS, NIL, ONE, ROOT_TWO, THREE, TWO, Told, decimal, fraction, kind_of, pair, point, raised
from tests.oracle import (
    ALL, BOWL, DISC, LOW, NONE, SLIVER, SQUARE, TWO_DISCS, TWO_HALVES, WEDGE, box, disc, half, lead, moved, polygon, some_right_figure,
)

START, EAST, NORTH = (NIL, NIL), (ONE, NIL), (NIL, ONE)
LENS = ("common", DISC, disc(1, 0, 1))
PIPE = ("less", disc(0, 0, 4), DISC)
UNBOUNDED = (ALL, LOW, TWO_HALVES, ("outside", DISC), ("outside", SQUARE), ("join", DISC, LOW), ("common", half(1, 0, 1), half(-1, 0, 1)))
EMPTY = (NONE, SLIVER, ("less", DISC, DISC), ("outside", ALL))


def pieces(figure):
    form = rim_form(figure)
    return form if kind_of(form) is tuple else ()


def floats(place):
    return tuple(float(decimal(number)) for number in place)


def spots_on(piece, many):
    """Spots along a piece, its ends too, in floats."""
    curve, is_inside, start, stop = piece
    a, b, c = [float(fraction(part)) for part in curve[1:]]
    if curve[0] == "line":
        x, y = floats(start or stop) if start or stop else (a * c / (a * a + b * b), b * c / (a * a + b * b))
        turn = atan2(a, -b) if is_inside else atan2(-a, b)
        if start and stop:
            u, v = floats(stop)
            return [(x + (u - x) * k / many, y + (v - y) * k / many) for k in range(many + 1)]
        signs = (1,) if start else (-1,) if stop else (1, -1)
        return [(x + sign * 50 * k / many * cos(turn), y + sign * 50 * k / many * sin(turn)) for sign in signs for k in range(many + 1)]
    first, span = 0.0, 2 * pi
    if start:
        first, last = [atan2(y - b, x - a) for x, y in (floats(start), floats(stop))]
        span = (last - first if is_inside else first - last) % (2 * pi) if start != stop else 2 * pi
    sign = 1 if is_inside else -1
    return [(a + c ** 0.5 * cos(first + sign * span * k / many), b + c ** 0.5 * sin(first + sign * span * k / many)) for k in range(many + 1)]


def square(place, other):
    parts = [less(first, second) for first, second in zip(place, other)]
    return plus(times(parts[0], parts[0]), times(parts[1], parts[1]))


def along(place, way):
    return plus(times(place[0], way[0]), times(place[1], way[1]))


class Gaps(Told, unittest.TestCase):
    def check(self, figure, start):
        found, place = gap(figure, start), nearest_place(figure, start)
        if is_empty(figure):
            self.assertIs(found, None)
            self.assertIs(place, None)
            return
        self.assertTrue(is_number(found))
        self.assertTrue(is_place(place))
        self.assertNotEqual(telling(figure, place), "out")
        self.assert_plain(square(place, start), found)
        if telling(figure, start) != "out":
            self.assert_plain(found, NIL)
            return
        self.assertEqual(order(found, NIL), 1)
        x, y = floats(start)
        least = min([(u - x) ** 2 + (v - y) ** 2 for piece in pieces(figure) for u, v in spots_on(piece, 400)])
        told = float(decimal(found))
        self.assertLessEqual(told, least + 1e-9)
        self.assertLess(least - told, 0.02 * (1 + least))

    def test_by_hand(self):
        root = root_of((1, 2))
        for figure, start, wanted, places in (
            (DISC, (TWO, NIL), ONE, [EAST]), (DISC, (ONE, ONE), (1, -6, 1, False), [(root, root)]), (DISC, START, NIL, [START]), (DISC, EAST, NIL, [EAST]), (DISC, ((3, 5), (4, 5)), NIL, [((3, 5), (4, 5))]),
            (SQUARE, (THREE, TWO), (5, 1), [(ONE, ONE)]), (SQUARE, (THREE, HALF), FOUR, [(ONE, HALF)]), (SQUARE, (HALF, (-2, 1)), FOUR, [(HALF, NIL)]), (SQUARE, (MINUS, MINUS), TWO, [START]),
            (("outside", DISC), START, ONE, None), (("outside", DISC), (HALF, NIL), (1, 4), [EAST]), (("outside", DISC), (NIL, (-1, 4)), (9, 16), [(NIL, MINUS)]), (NONE, START, None, None), (SLIVER, (ONE, NIL), None, None),
            (ALL, START, NIL, [START]), (TWO_HALVES, START, NIL, [START]), (LOW, (THREE, TWO), FOUR, [(THREE, NIL)]), (WEDGE, (ONE, ONE), HALF, [(HALF, HALF)]), (WEDGE, (TWO, NIL), ONE, [EAST]),
            # The middle of both halves of a disc; the nearest is a corner where the round part ends.
            (BOWL, (NIL, ONE), ONE, [START]), (BOWL, (TWO, ONE), TWO, [EAST]), (BOWL, (TWO, MINUS), (1, -12, 16, False), None), (PIPE, START, ONE, None), (PIPE, (HALF, NIL), (1, 4), [EAST]), (PIPE, (THREE, NIL), ONE, [(TWO, NIL)]),
            # From the middle of its circle all of a piece is as far.
            (("less", BOWL, disc(0, 0, Fraction(1, 4))), START, (1, 4), None), (("common", PIPE, half(0, 1, -1)), START, ONE, [(NIL, MINUS)]),
            (("less", disc(0, 0, 4), ("join", DISC, half(-1, 0, 0))), START, ONE, None), (("less", ("outside", DISC), half(1, 0, Fraction(3, 5))), START, ONE, None),
            # The second circle's place on the way to its middle; a corner of both.
            (LENS, (NIL, ONE), (1, -6, 1, False), [((2, -4, 1, False), root)]), (LENS, (HALF, ONE), (16, -56, 1, False), [(HALF, (4, 0, -3, True))]),
            (TWO_DISCS, (ONE, ONE), (1, -6, 1, False), None), (("outside", TWO_DISCS), START, ONE, None), (("join", SQUARE, moved(4, 0, SQUARE)), ((5, 2), HALF), (9, 4), None),
        ):
            self.assert_plain(gap(figure, start), wanted)
            self.assert_plain(gap(point=start, figure=figure), wanted)
            if places is not None:
                self.assertIn(nearest_place(figure, start), places)
            self.assert_plain(nearest_place(figure, start), nearest_place(point=start, figure=figure))
            self.check(figure, start)

    def test_many(self):
        chance = random.Random(151)
        for _ in range(150):
            figure = some_right_figure(chance, chance.randint(1, 4), 7)
            for _ in range(4):
                self.check(figure, point(Fraction(chance.randint(-9, 9), chance.choice((1, 2, 3))), Fraction(chance.randint(-9, 9), chance.choice((1, 2, 5)))))

    def test_from_centres(self):
        chance = random.Random(152)
        for _ in range(80):
            figure = some_right_figure(chance, chance.randint(2, 4), 7)
            for curve in {piece[0] for piece in pieces(figure)}:
                if curve[0] == "circle":
                    self.check(figure, curve[1:3])

    def test_far_away_and_near(self):
        big, small = 10 ** 100, Fraction(1, 10 ** 100)
        self.assert_plain(gap(DISC, point(big, 0)), pair((big - 1) ** 2))
        self.assert_plain(gap(DISC, point(1 + small, 0)), pair(small ** 2))
        self.assert_plain(gap(("outside", DISC), point(small, 0)), pair((1 - small) ** 2))
        self.assert_plain(nearest_place(DISC, point(-big, 0)), (MINUS, NIL))
        self.assert_plain(gap(SQUARE, point(-small, -small)), pair(2 * small ** 2))

    def test_figures_that_are_one(self):
        chance = random.Random(153)
        for _ in range(40):
            first, second, start = some_right_figure(chance, 2, 4), some_right_figure(chance, 2, 4), point(chance.randint(-4, 4), Fraction(chance.randint(-8, 8), 3))
            for other in (("join", first, ("common", first, second)), ("outside", ("outside", first)), ("join", ("less", first, second), ("common", second, first)), moved(1, 2, moved(-1, -2, first))):
                self.assert_plain(gap(other, start), gap(first, start))


class Reaches(Told, unittest.TestCase):
    def check(self, figure, way):
        found, place = reach(figure, way), farthest_place(figure, way)
        self.assertTrue(is_number(found))
        self.assertTrue(is_place(place))
        self.assertNotEqual(telling(figure, place), "out")
        self.assert_plain(along(place, way), found)
        (a, b), told = floats(way), float(decimal(found))
        most = max([a * x + b * y for piece in pieces(figure) for x, y in spots_on(piece, 400)])
        self.assertGreaterEqual(told, most - 1e-9 * (1 + abs(a) + abs(b)))
        self.assertLess(told - most, 0.02 * (1 + abs(a) + abs(b)))

    def test_by_hand(self):
        for figure, way, wanted, places in (
            (DISC, (ONE, ONE), ROOT_TWO, [((2, 0, -1, True), (2, 0, -1, True))]), (DISC, EAST, ONE, [EAST]), (DISC, (THREE, NIL), THREE, [EAST]), (DISC, (MINUS, NIL), ONE, [(MINUS, NIL)]), (DISC, (HALF, NIL), HALF, [EAST]),
            (SQUARE, (ONE, TWO), THREE, [(ONE, ONE)]), (SQUARE, (MINUS, MINUS), NIL, [START]), (SQUARE, EAST, ONE, [EAST, (ONE, ONE)]), (BOWL, NORTH, NIL, [EAST, (MINUS, NIL)]), (BOWL, (NIL, MINUS), ONE, [(NIL, MINUS)]),
            (BOWL, (ONE, ONE), ONE, [EAST]), (BOWL, (ONE, MINUS), ROOT_TWO, [((2, 0, -1, True), (2, 0, -1, False))]), (LENS, NORTH, (4, 0, -3, True), [(HALF, (4, 0, -3, True))]), (LENS, EAST, ONE, [EAST]),
            (TWO_DISCS, EAST, THREE, [(THREE, NIL)]), (PIPE, EAST, TWO, [(TWO, NIL)]), (WEDGE, (ONE, ONE), ONE, [EAST, NORTH]), (disc(3, 4, 2), NORTH, (1, -8, 14, True), None), (("less", DISC, half(-1, 0, 0)), EAST, NIL, [NORTH, (NIL, MINUS)]),
            (("less", DISC, disc(1, 0, 1)), EAST, HALF, [(HALF, (4, 0, -3, True)), (HALF, (4, 0, -3, False))]),
        ):
            self.assert_plain(reach(figure, way), wanted)
            self.assert_plain(reach(way=way, figure=figure), wanted)
            if places is not None:
                self.assertIn(farthest_place(figure, way), places)
            self.assert_plain(farthest_place(figure, way), farthest_place(way=way, figure=figure))
            self.check(figure, way)

    def test_boxes(self):
        root = (4, 0, -3, True)
        for figure, wanted in (
            (DISC, (MINUS, ONE, MINUS, ONE)), (SQUARE, (NIL, ONE, NIL, ONE)), (LENS, (NIL, ONE, (4, 0, -3, False), root)), (BOWL, (MINUS, ONE, MINUS, NIL)), (TWO_DISCS, (MINUS, THREE, MINUS, ONE)), (WEDGE, (NIL, ONE, NIL, ONE)),
            (box(-3, Fraction(1, 2), 4, 9), (pair(-3), pair(4), HALF, pair(9))), (disc(3, 4, 2), ((1, -6, 7, False), (1, -6, 7, True), (1, -8, 14, False), (1, -8, 14, True))), (("join", SQUARE, moved(-7, 5, SQUARE)), (pair(-7), ONE, NIL, pair(6))),
            (("led", lead(0, 1, False, 0, 0), ("common", DISC, LOW)), (NIL, ONE, MINUS, ONE)), (polygon((0, 0), (5, -2), (3, 4)), (NIL, pair(5), pair(-2), FOUR)),
        ):
            self.assert_plain(box_around(figure), wanted)
            self.assert_plain(box_around(figure=figure), wanted)

    def test_many(self):
        chance = random.Random(154)
        done = 0
        while done < 120:
            figure = some_right_figure(chance, chance.randint(1, 4), 7)
            if not is_bounded(figure) or is_empty(figure):
                continue
            for _ in range(3):
                self.check(figure, point(Fraction(chance.randint(-9, 9), chance.choice((1, 2, 3))), Fraction(chance.choice((-5, -1, 1, 2, 7)), chance.choice((1, 2, 5)))))
            left, right, bottom, top = box_around(figure)
            self.assert_plain(right, reach(figure, EAST))
            self.assert_plain(top, reach(figure, NORTH))
            self.assert_plain((left, bottom), (times(MINUS, reach(figure, (MINUS, NIL))), times(MINUS, reach(figure, (NIL, MINUS)))))
            self.check_box(figure, (left, right, bottom, top))
            done += 1

    def check_box(self, figure, sides):
        """A box a little wider has all of the figure, one a little narrower on any side has not."""
        small = Fraction(1, 1000)
        left, right, bottom, top = [Fraction(float(decimal(number))) for number in sides]
        curves = len({piece[0] for piece in pieces(figure)})
        if curves <= 5 and len(str(figure)) < 300:
            try:
                self.assertTrue(is_within(figure, box(left - small, bottom - small, right + small, top + small)))
                for k in range(4):
                    cut = [left - small, bottom - small, right + small, top + small]
                    cut[k] += 2 * small if k < 2 else -2 * small
                    if cut[0] < cut[2] and cut[1] < cut[3]:
                        self.assertFalse(is_within(figure, box(*cut)))
            except errors.TooMany:
                pass

    def test_errors(self):
        for figure in UNBOUNDED:
            for error in (raised(reach, figure, EAST), raised(farthest_place, figure, EAST), raised(box_around, figure)):
                self.assertIs(kind_of(error), errors.NotBounded)
            self.assert_given(errors.InvalidWay, START, reach, figure, START)
            self.assert_given(errors.InvalidWay, None, farthest_place, figure, None)
            self.assertIsNone(raised(gap, figure, START))
        for figure in EMPTY:
            for error in (raised(reach, figure, EAST), raised(farthest_place, figure, EAST), raised(box_around, figure)):
                self.assertIs(kind_of(error), errors.NothingInside)
            self.assert_given(errors.InvalidWay, START, reach, figure, START)
            self.assertIs(gap(figure, START), None)
        self.assert_given(errors.InvalidFigure, "x", reach, "x", START)
        wrong = (ROOT_TWO, NIL)
        self.assert_given(errors.InvalidPoint, wrong, gap, DISC, wrong)


if __name__ == "__main__":
    unittest.main()
