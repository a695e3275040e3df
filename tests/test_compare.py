"""Figures compared: empty, one, within, apart, bounded, points and rays for no ([25])."""

import random
import unittest
from fractions import Fraction

from planehall import errors
from planehall.chart import corners, faces
from planehall.compare import (
    are_apart, inner_point, is_bounded, is_empty, is_same, is_within, outer_point, parting_point, ray_of, shared_point,
)
from planehall.curves import sign_at
from planehall.figures import curves_of
from planehall.rimform import rim_form
from tests.helpers import NIL, ONE, TWO, Told, fraction, kind_of, pair, raised
from tests.oracle import (
    ALL, BOWL, DISC, LOW, NONE, SLIVER, SQUARE, TWO_DISCS, TWO_HALVES, WEDGE, box, disc, half, is_in_at, lead, moved, polygon, some_right_figure,
)

ORIGIN, EAST = (NIL, NIL), (ONE, NIL)
FIRSTS = (is_same, parting_point, is_within, outer_point, are_apart, shared_point)
ALONE = (is_empty, inner_point, is_bounded, ray_of)
STRIP = ("common", half(1, 0, 1), half(-1, 0, 1))
QUARTER = ("common", LOW, half(1, 0, 0))
RIGHT_HALF = half(-1, 0, 0)
BY_HAND = (
    ALL, NONE, DISC, LOW, SQUARE, WEDGE, BOWL, SLIVER, TWO_DISCS, TWO_HALVES, STRIP, QUARTER, RIGHT_HALF, ("outside", DISC), ("outside", SQUARE),
    ("outside", STRIP), ("less", STRIP, LOW), ("less", STRIP, DISC), ("common", STRIP, half(1, 1, 0)), ("less", QUARTER, disc(-3, -3, 1)),
)


class Points(Told, unittest.TestCase):
    """Each pair of functions, with what the points must be."""

    def assert_point(self, found, *figures):
        self.assert_plain(found, tuple(pair(fraction(part)) for part in found))
        for figure in figures:
            self.assertTrue(all(sign_at(curve, found) != 0 for curve in curves_of(figure)))

    def check_one(self, figure, is_so):
        self.assertIs(is_empty(figure), is_so)
        found = inner_point(figure)
        self.assertIs(found is None, is_so)
        if not is_so:
            self.assert_point(found, figure)
            self.assertTrue(is_in_at(figure, found))

    def check_pair(self, function, pointing, wanted, first, second, is_so):
        self.assertIs(function(first, second), is_so, (function, first, second))
        found = pointing(first, second)
        self.assertIs(found is None, is_so)
        if not is_so:
            self.assert_point(found, first, second)
            self.assertIn((is_in_at(first, found), is_in_at(second, found)), wanted)

    def check_same(self, first, second, is_so):
        self.check_pair(is_same, parting_point, ((True, False), (False, True)), first, second, is_so)

    def check_within(self, first, second, is_so):
        self.check_pair(is_within, outer_point, ((True, False),), first, second, is_so)

    def check_apart(self, first, second, is_so):
        self.check_pair(are_apart, shared_point, ((True, True),), first, second, is_so)

    def test_empty(self):
        for figure in (
            NONE, SLIVER, ("outside", ALL), ("less", DISC, DISC), ("common", DISC, disc(2, 0, 1)), ("common", half(1, 0, 0), half(-1, 0, 0)), ("outside", TWO_HALVES),
            ("less", BOWL, DISC), ("common", half(0, 1, 0), half(0, -1, -1)), ("repeat", 3, EAST, NONE), ("led", lead(2, 1, True, 1, 1), SLIVER), ("less", SQUARE, ALL),
            ("less", disc(Fraction(1, 2), 0, Fraction(1, 4)), DISC),
        ):
            self.check_one(figure, True)
        small = Fraction(1, 10 ** 50)
        for figure in (
            ALL, DISC, LOW, SQUARE, WEDGE, BOWL, TWO_DISCS, TWO_HALVES, ("outside", NONE), ("common", DISC, disc(2 - small, 0, 1)), ("common", DISC, half(-1, 0, small - 1)),
            ("less", half(1, 0, 1), DISC), disc(0, 0, small), box(0, 0, small, small), ("less", disc(Fraction(1, 2), 0, Fraction(1, 4) + small), DISC),
        ):
            self.check_one(figure, False)

    def test_same(self):
        for first, second in (
            (ALL, ALL), (ALL, TWO_HALVES), (NONE, SLIVER), (DISC, ("common", DISC, ("join", LOW, DISC))), (BOWL, ("less", DISC, ("outside", LOW))), (half(1, 0, 1), half(3, 0, 3)),
            (half(1, 0, 1), ("outside", half(-1, 0, -1))), (SQUARE, polygon((0, 0), (1, 0), (1, 1), (0, 1))), (SQUARE, polygon((1, 1), (0, 1), (0, 0), (1, 0))),
            (disc(2, 0, 1), moved(2, 0, DISC)), (("repeat", 2, EAST, SQUARE), ("join", SQUARE, box(1, 0, 2, 1))), (("repeat", 2, EAST, SQUARE), box(0, 0, 2, 1)), (DISC, ("led", lead(Fraction(3, 5), Fraction(4, 5), True, 0, 0), DISC)),
            (("join", BOWL, ("less", DISC, BOWL)), DISC), (("outside", ("join", DISC, LOW)), ("common", ("outside", LOW), ("outside", DISC))),
        ):
            self.check_same(first, second, True)
            self.check_same(second, first, True)
            self.check_same(("outside", first), ("outside", second), True)
        small = Fraction(1, 10 ** 50)
        for first, second in (
            (ALL, NONE), (DISC, BOWL), (LOW, ("outside", LOW)), (DISC, disc(0, 0, 1 + small)), (DISC, disc(small, 0, 1)), (half(1, 0, 1), half(-1, 0, -1)), (SLIVER, ALL),
            (("repeat", 2, ((3, 2), NIL), SQUARE), box(0, 0, Fraction(5, 2), 1)), (half(1, 0, 1), half(1, small, 1)), (DISC, ("outside", DISC)), (NONE, disc(5, 5, small)), (WEDGE, SQUARE),
        ):
            self.check_same(first, second, False)
            self.check_same(second, first, False)
            self.check_same(("outside", first), ("outside", second), False)

    def test_within(self):
        for first, second, is_so, is_so_back in (
            (BOWL, DISC, True, False), (NONE, ALL, True, False), (NONE, NONE, True, True), (SLIVER, NONE, True, True), (ALL, TWO_HALVES, True, True), (DISC, LOW, False, False),
            (disc(Fraction(1, 2), 0, Fraction(1, 4)), DISC, True, False), (DISC, half(1, 0, 1), True, False), (SQUARE, half(-1, 0, 0), True, False), (WEDGE, SQUARE, True, False),
            (BOWL, LOW, True, False), (QUARTER, LOW, True, False), (DISC, disc(2, 0, 1), False, False), (box(0, 0, 3, 1), ("repeat", 2, (TWO, NIL), SQUARE), False, True),
            (DISC, disc(0, 0, 4), True, False), (STRIP, half(1, 0, 2), True, False), (("outside", disc(0, 0, 4)), ("outside", DISC), True, False),
        ):
            self.check_within(first, second, is_so)
            self.check_within(second, first, is_so_back)
            self.check_within(("outside", second), ("outside", first), is_so)

    def test_apart(self):
        small = Fraction(1, 10 ** 50)
        for first, second, is_so in (
            (DISC, disc(2, 0, 1), True), (DISC, disc(2 - small, 0, 1), False), (LOW, ("outside", LOW), True), (NONE, ALL, True), (ALL, ALL, False), (DISC, LOW, False), (DISC, BOWL, False),
            (DISC, half(-1, 0, -1), True), (DISC, half(-1, 0, small - 1), False), (SQUARE, moved(1, 0, SQUARE), True), (SQUARE, moved(1, 1, SQUARE), True), (SLIVER, ALL, True),
            (QUARTER, half(0, -1, 0), True), (QUARTER, STRIP, False), (("outside", DISC), disc(Fraction(1, 2), 0, Fraction(1, 4)), True), (WEDGE, polygon((1, 0), (1, 1), (0, 1)), True),
        ):
            self.check_apart(first, second, is_so)
            self.check_apart(second, first, is_so)

    def test_many_figures(self):
        chance = random.Random(91)
        seen = {}
        for _ in range(150):
            first, second = some_right_figure(chance, chance.randint(1, 3), 4), some_right_figure(chance, chance.randint(1, 3), 4)
            if chance.random() < 0.3:
                second = (chance.choice(("join", "common", "less")), first, second)
            both = {(is_in_at(first, place), is_in_at(second, place)) for place in faces(curves_of(("join", first, second)))}
            so = (not both & {(True, False), (False, True)}, (True, False) not in both, (True, True) not in both)
            self.check_same(first, second, so[0])
            self.check_within(first, second, so[1])
            self.check_apart(first, second, so[2])
            self.check_one(first, not {pair for pair in both if pair[0]})
            self.assertIs(is_same(first, second), rim_form(first) == rim_form(second))
            self.assertIs(is_same(first, second), is_within(first, second) and is_within(second, first))
            self.assertIs(is_within(first, second), is_empty(("less", first, second)))
            self.assertIs(are_apart(first, second), is_empty(("common", first, second)))
            for k, part in enumerate(so):
                seen[k, part] = seen.get((k, part), 0) + 1
        self.assertGreater(min([seen[k, part] for k in range(3) for part in (True, False)]), 10)


def meets_ray(curve, point, way):
    """Whether some p + s w, s from 0 on, is on a curve, by Python's fractions."""
    a, b, c = [fraction(part) for part in curve[1:]]
    (x, y), (u, v) = [[fraction(part) for part in told] for told in (point, way)]
    if curve[0] == "line":
        first, rise = a * x + b * y - c, a * u + b * v
        return first == 0 or first * rise < 0
    square, middle, rest = u * u + v * v, 2 * (u * (x - a) + v * (y - b)), (x - a) ** 2 + (y - b) ** 2 - c
    # With a value below or at 0 the way leaves the circle later; else it comes near it only if the middle is ahead.
    return rest <= 0 or (middle < 0 and middle * middle >= 4 * square * rest)


class Rays(Told, unittest.TestCase):
    def check(self, figure, is_so):
        self.assertIs(is_bounded(figure), is_so, figure)
        found = ray_of(figure)
        self.assertIs(found is None, is_so)
        if not is_so:
            self.assertIs(kind_of(found), tuple)
            point, way = found
            for told in found:
                self.assert_plain(told, tuple(pair(fraction(part)) for part in told))
            self.assertNotEqual(way, ORIGIN)
            self.assertEqual([curve for curve in curves_of(figure) if meets_ray(curve, point, way)], [])
            self.assertTrue(is_in_at(figure, point))

    def test_by_hand(self):
        for figure in (
            NONE, DISC, SQUARE, WEDGE, BOWL, SLIVER, TWO_DISCS, ("outside", ALL), ("less", STRIP, ("outside", DISC)), ("common", STRIP, box(-9, -9, 9, 9)),
            ("common", ("common", LOW, half(-1, 0, 0)), half(1, -1, 1)), ("outside", TWO_HALVES), ("repeat", 6, EAST, DISC), ("led", lead(3, 1, True, 9, 9), BOWL),
            ("common", QUARTER, ("common", half(-1, -1, 1), half(-1, 1, 5))), ("common", ("outside", QUARTER), DISC), ("common", half(1, 0, 0), half(-1, 0, 0)),
        ):
            self.check(figure, True)
        for figure in (
            ALL, LOW, TWO_HALVES, STRIP, QUARTER, RIGHT_HALF, ("outside", DISC), ("outside", SQUARE), ("outside", WEDGE), ("outside", STRIP), ("less", STRIP, LOW),
            ("less", STRIP, DISC), ("common", STRIP, half(1, 1, 0)), ("less", ALL, ("repeat", 6, EAST, DISC)), ("join", DISC, ("common", QUARTER, half(1, -1, -99))),
            ("common", half(1, 10 ** 30, 0), half(-1, 10 ** 30, 0)), ("common", half(1, -3, 0), half(-1, 3, 1)), ("outside", SLIVER),
        ):
            self.check(figure, False)

    def test_strips_along_all_ways(self):
        for a, b in ((1, 0), (0, 1), (1, 1), (1, -1), (-3, 2), (Fraction(1, 9), 5), (-7, Fraction(-1, 2))):
            for wide in (1, Fraction(1, 10 ** 20)):
                strip = ("common", half(a, b, wide), half(-a, -b, 0))
                self.check(strip, False)
                self.check(("outside", strip), False)
                self.check(("less", strip, disc(0, 0, 100)), False)
                self.check(("common", strip, disc(0, 0, 100)), True)
                for c, d in ((-b, a), (b, -a)):
                    self.check(("common", strip, half(c, d, 3)), False)
                self.check(("common", ("common", strip, half(b, -a, 3)), half(-b, a, 3)), True)

    def test_wedges_along_all_ways(self):
        ways = ((1, 0), (2, 1), (1, 1), (0, 1), (-1, 1), (-1, 0), (-3, -1), (0, -1), (1, -1))
        for k, (a, b) in enumerate(ways):
            for c, d in ways[:k]:
                cross = a * d - b * c
                wedge = ("common", half(a, b, 0), half(c, d, 0))
                is_empty_one = cross == 0 and a * c + b * d < 0
                self.check(wedge, is_empty_one)
                self.check(("less", wedge, disc(1, 1, 9)), is_empty_one)
                # Cut off on the far side it is a triangle.
                if cross:
                    self.check(("common", wedge, half(-a - c, -b - d, 1)), True)

    def test_many_figures(self):
        """A figure is bounded exactly if it is empty outside of a circle round all corners and circles."""
        chance = random.Random(92)
        seen = {True: 0, False: 0}
        for figure in BY_HAND + tuple(some_right_figure(chance, chance.randint(1, 4), 8) for _ in range(150)):
            is_so = is_empty(("less", figure, disc(0, 0, 10 ** 6)))
            self.check(figure, is_so)
            seen[is_so] += 1
            self.assertFalse(is_so and is_bounded(("outside", figure)))
        self.assertGreater(min(seen.values()), 30)

    def test_far_corners(self):
        # Nearly level lines cross far away: near to (0, 0) this looks like a strip.
        big = 10 ** 40
        thin = ("common", half(1, big, big), half(1, -big, big))
        self.check(thin, False)
        self.check(("common", thin, half(-1, 0, 0)), True)
        self.assertGreater(max([fraction(place[0]) for place in corners(curves_of(thin))]), 10 ** 39)


def joined(parts):
    if len(parts) == 1:
        return parts[0]
    return ("join", joined(parts[:len(parts) // 2]), joined(parts[len(parts) // 2:]))


class TooMany(Told, unittest.TestCase):
    def assert_much(self, many, call, *args):
        for error in (raised(call, *args), raised(call, **dict(zip(("figure", "other"), args)))):
            self.assertIs(kind_of(error), errors.TooMany, call)
            self.assert_plain(error.given, many)

    def test_curves_of_both_together(self):
        row = [disc(k, 0, 1) for k in range(9)]
        for many in range(1, 9):
            first, second = joined(row[:many]), joined(row[many:])
            for call in FIRSTS:
                self.assertIsNone(raised(call, first, second))
                self.assertIsNone(raised(call, ("join", first, second), second))
                for k in (1, 2):
                    if many >= k:
                        more = joined(row[many:] + [half(0, 1, part) for part in range(k)])
                        self.assert_much(9 + k, call, first, more)
                        self.assert_much(9 + k, call, more, first)

    def test_nine_of_each(self):
        first, second = joined([disc(k, 0, 1) for k in range(9)]), joined([disc(0, k, 1) for k in range(9)])
        for call in FIRSTS:
            self.assertIsNone(raised(call, first, first))
            self.assert_much(17, call, first, second)
            self.assert_much(18, call, first, joined([half(1, 0, k) for k in range(9)]))
            self.assertIsNone(raised(call, first, ALL))
            # One form counts once, however it is told.
            self.assertIsNone(raised(call, joined([half(1, 0, k) for k in range(9)]), joined([half(-2, 0, -2 * k) for k in range(9)])))

    def test_each_by_itself(self):
        ten, nine = joined([disc(k, 0, 1) for k in range(10)]), joined([half(1, 0, k) for k in range(9)])
        great = ("repeat", 6, ORIGIN, ("repeat", 6, ORIGIN, ("join", SQUARE, ("join", ALL, ALL))))
        for call in FIRSTS:
            self.assert_much(10, call, ten, great)
            self.assert_much(216, call, great, ten)
            self.assert_much(10, call, nine, ten)
            self.assert_much(216, call, DISC, great)
            self.assert_much(10, call, ten, None)
            self.assert_given(errors.InvalidFigure, None, call, None, ten)
            self.assert_given(errors.InvalidFigure, None, call, nine, None)
        for call in ALONE:
            self.assert_much(10, call, ten)
            self.assert_much(216, call, great)

    def test_size_200_and_twelve_deep(self):
        great = ("repeat", 5, ORIGIN, ("repeat", 5, ORIGIN, ("join", SQUARE, SQUARE)))
        deep = DISC
        for _ in range(11):
            deep = ("outside", deep)
        deeper = ("outside", deep)
        for call in FIRSTS:
            self.assertIsNone(raised(call, great, great))
            self.assert_much(201, call, great, ("join", great, ALL))
            # Both are as deep as is let, though a join of both would be deeper.
            self.assertIsNone(raised(call, deep, deep))
            self.assert_given(errors.InvalidFigure, deeper, call, deep, deeper)
            self.assert_given(errors.InvalidFigure, deeper, call, deeper, None)
        for call in ALONE:
            self.assertIsNone(raised(call, deep))
            self.assertIsNone(raised(call, great))
            self.assertIsNone(raised(call, joined([disc(k, 0, 1) for k in range(9)])))
            self.assert_given(errors.InvalidFigure, deeper, call, deeper)
            self.assert_much(201, call, ("join", great, ALL))
        self.assertIs(is_same(deep, ("outside", DISC)), True)
        self.assertIs(is_bounded(deep), False)
        self.assertIs(is_within(great, SQUARE), True)
        self.assertIs(is_within(moved(Fraction(1, 2), 0, SQUARE), great), False)


if __name__ == "__main__":
    unittest.main()
