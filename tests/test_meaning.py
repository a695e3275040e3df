"""What figures tell at places by the rows near them ([17], [20], [22], [24])."""

import random
import unittest
from fractions import Fraction

from planehall import errors
from planehall.chart import corners, faces
from planehall.curves import sign_at
from planehall.figures import curves_of, plain_of, truth_at
from planehall.leads import led_place, move
from planehall.meaning import is_free, telling
from planehall.rimform import told_at
from planehall.roots import plus, root_of
from planehall.rows import rows_near
from tests.helpers import HALF, MINUS, NIL, ONE, ROOT_TWO, TWO, Told, kind_of, point, raised
from tests.oracle import (
    ALL, BOWL, DISC, LOW, NONE, SLIVER, SQUARE, TWO_DISCS, TWO_HALVES, WEDGE, box, disc, half, is_in_at, lead, moved, parts_in_order, polygon, some_lead,
    some_right_figure, telling_by_bends,
)

ORIGIN, EAST = (NIL, NIL), (ONE, NIL)
BY_HAND = (ALL, NONE, DISC, LOW, SQUARE, WEDGE, BOWL, SLIVER, TWO_DISCS, TWO_HALVES, ("outside", SLIVER), ("outside", TWO_DISCS))


def all_places(curves):
    """A place in each corner and face, on each part of an edge, and in each gap of a column."""
    on_edges, in_gaps = parts_in_order(curves, corners(curves))
    return list(corners(curves)) + on_edges + in_gaps


class ByHand(Told, unittest.TestCase):
    def check(self, figure, place, wanted):
        self.assert_plain(telling(figure, place), wanted)
        self.assert_plain(told_at(figure, place), wanted)

    def test_plain_ones(self):
        self.check(ALL, ORIGIN, "in")
        self.check(NONE, (ROOT_TWO, NIL), "out")
        self.check(DISC, ORIGIN, "in")
        self.check(DISC, EAST, "rim")
        self.check(DISC, (ONE, ONE), "out")
        self.check(LOW, (ROOT_TWO, (-1, 100)), "in")
        self.check(LOW, (ROOT_TWO, NIL), "rim")
        self.check(LOW, (ROOT_TWO, ROOT_TWO), "out")
        for place, wanted in ((ORIGIN, "rim"), ((HALF, NIL), "rim"), ((HALF, HALF), "in"), ((ONE, ONE), "rim"), ((TWO, NIL), "out"), ((MINUS, NIL), "out"), ((HALF, TWO), "out")):
            self.check(SQUARE, place, wanted)
        for place, wanted in ((ORIGIN, "rim"), ((HALF, HALF), "rim"), (((1, 4), (1, 4)), "in"), (((3, 4), (3, 4)), "out"), ((ONE, NIL), "rim"), ((TWO, MINUS), "out")):
            self.check(WEDGE, place, wanted)

    def test_rims_that_vanish(self):
        self.check(TWO_HALVES, ORIGIN, "in")
        self.check(TWO_HALVES, (ROOT_TWO, NIL), "in")
        self.check(SLIVER, EAST, "out")
        self.check(("outside", SLIVER), EAST, "in")
        self.check(("less", DISC, DISC), EAST, "out")
        self.check(("join", DISC, ("outside", DISC)), EAST, "in")
        self.check(("common", DISC, disc(2, 0, 1)), EAST, "out")
        # A slit: in on both sides of a line, up to the ring.
        slit = ("join", ("less", DISC, LOW), BOWL)
        self.check(slit, ORIGIN, "in")
        self.check(slit, EAST, "rim")

    def test_touching_curves(self):
        self.check(TWO_DISCS, EAST, "rim")
        outside_both = ("common", ("outside", DISC), ("outside", half(-1, 0, -1)))
        self.check(outside_both, EAST, "rim")
        # Between ring and line there is a free place at each distance, though thin.
        self.check(("less", half(1, 0, 1), DISC), EAST, "rim")
        self.check(("join", DISC, half(-1, 0, -1)), EAST, "rim")
        self.check(("join", ("join", DISC, half(-1, 0, -1)), ("less", half(1, 0, 1), DISC)), EAST, "in")
        self.check(("less", disc(Fraction(1, 2), 0, Fraction(1, 4)), DISC), EAST, "out")
        self.check(("less", disc(0, 0, 1), disc(Fraction(1, 2), 0, Fraction(1, 4))), EAST, "rim")

    def test_places_of_roots(self):
        lens = ("common", DISC, disc(1, 0, 1))
        tip = (HALF, (4, 0, -3, True))
        self.check(lens, tip, "rim")
        self.check(("common", lens, ("outside", lens)), tip, "out")
        self.check(("join", lens, ("outside", lens)), tip, "in")
        self.check(("common", lens, half(0, -1, -1)), tip, "out")
        self.check(("less", ALL, lens), tip, "rim")
        self.check(DISC, (root_of(HALF), root_of(HALF)), "rim")
        self.check(("common", ("common", DISC, half(1, -1, 0)), half(-1, 1, 0)), (root_of(HALF), root_of(HALF)), "out")

    def test_is_free(self):
        for figure, place, wanted in (
            (ALL, ORIGIN, True), (NONE, (ROOT_TWO, NIL), True), (DISC, ORIGIN, True), (DISC, EAST, False), (BOWL, ORIGIN, False), (BOWL, (NIL, MINUS), False),
            (BOWL, (ROOT_TWO, NIL), False), (BOWL, (ROOT_TWO, ONE), True), (SQUARE, ((5, 1), ONE), False), (SQUARE, (HALF, HALF), True), (SQUARE, (ROOT_TWO, HALF), True),
            (moved(1, 0, DISC), EAST, True), (moved(1, 0, DISC), ORIGIN, False), (DISC, (root_of(HALF), root_of(HALF)), False), (("repeat", 3, EAST, DISC), ((3, 1), NIL), False),
            (("join", ALL, DISC), EAST, False), (WEDGE, ((2, 1), MINUS), False),
        ):
            self.assertIs(is_free(figure, place), wanted)


class Everywhere(Told, unittest.TestCase):
    def figures(self, seed):
        chance = random.Random(seed)
        yield from BY_HAND
        for deep, times in ((1, 8), (2, 25), (3, 25), (4, 15)):
            for _ in range(times):
                yield some_right_figure(chance, deep, 7)

    def test_as_the_chart_and_as_bends(self):
        for figure in self.figures(81):
            curves = curves_of(figure)
            for place in all_places(curves):
                told = telling(figure, place)
                self.assert_plain(told_at(figure, place), told)
                self.assertEqual(telling_by_bends(figure, curves, place), told, (figure, place))

    def test_free_places(self):
        for figure in self.figures(82):
            curves = curves_of(figure)
            for place in all_places(curves):
                self.assertIs(is_free(figure, place), all(sign_at(curve, place) != 0 for curve in curves))
                if is_free(figure, place):
                    self.assertNotEqual(telling(figure, place), "rim")
            for place in faces(curves):
                wanted = "in" if is_in_at(figure, place) else "out"
                self.assert_plain(telling(figure, place), wanted)

    def test_by_truths_at_rows(self):
        for figure in self.figures(83):
            curves = curves_of(figure)
            for place in corners(curves):
                truths = {truth_at(figure, row) for row in rows_near(curves, place)}
                self.assertEqual(telling(figure, place), "rim" if len(truths) == 2 else "in" if True in truths else "out")

    def test_of_outside_join_and_common(self):
        chance = random.Random(84)
        for _ in range(30):
            first, second = some_right_figure(chance, 2, 4), some_right_figure(chance, 2, 4)
            for place in all_places(curves_of(("join", first, second))):
                one, other = telling(first, place), telling(second, place)
                self.assertEqual(telling(("outside", first), place), {"in": "out", "out": "in", "rim": "rim"}[one])
                joined, common = telling(("join", first, second), place), telling(("common", first, second), place)
                self.assertEqual(joined == "out", (one, other) == ("out", "out"))
                self.assertEqual(common == "in", (one, other) == ("in", "in"))
                if "in" in (one, other):
                    self.assertEqual(joined, "in")
                if "out" in (one, other):
                    self.assertEqual(common, "out")
                self.assertEqual(telling(("less", first, second), place), telling(("common", first, ("outside", second)), place))

    def test_of_led_figures(self):
        chance = random.Random(85)
        for _ in range(40):
            figure, told = some_right_figure(chance, 2, 5), some_lead(chance)
            for place in all_places(curves_of(figure)):
                self.assertEqual(telling(("led", told, figure), led_place(told, place)), telling(figure, place))
        self.assertEqual(telling(("led", move(EAST), DISC), (TWO, NIL)), "rim")

    def test_needless_curves_change_nothing(self):
        chance = random.Random(86)
        for _ in range(30):
            figure, other = some_right_figure(chance, 2, 4), some_right_figure(chance, 1, 4)
            more = ("join", figure, ("common", figure, other))
            for place in all_places(curves_of(more)):
                self.assertEqual(telling(more, place), telling(figure, place))

    def test_nine_curves_and_much_depth(self):
        chance = random.Random(87)
        for _ in range(5):
            figure = disc(0, 0, 4)
            for k in range(8):
                part = disc(chance.randint(-2, 2), chance.randint(-2, 2), k + 1) if chance.random() < 0.6 else half(chance.randint(1, 2), chance.randint(-2, 2), k)
                figure = (chance.choice(("join", "less", "common")), figure, part)
            for place in corners(curves_of(figure)):
                self.assertEqual(telling(figure, place), told_at(figure, place))
        deep = BOWL
        for k in range(10):
            deep = ("outside", deep) if k % 2 else ("join", deep, SLIVER)
        self.assertEqual(telling(deep, EAST), telling_by_bends(deep, curves_of(deep), EAST))
        self.assertEqual(plain_of(ALL), True)

    def test_the_limits(self):
        great, deep, nine = ("repeat", 5, ORIGIN, ("repeat", 5, ORIGIN, ("join", SQUARE, SQUARE))), DISC, DISC
        for k in range(1, 9):
            nine = ("join", nine, disc(k, 0, 1))
        for _ in range(11):
            deep = ("outside", deep)
        deeper = ("outside", deep)
        for call in (is_free, telling):
            for figure in (great, nine, deep):
                self.assertIsNone(raised(call, figure, EAST))
            self.assert_given(errors.InvalidFigure, deeper, call, deeper, EAST)
            for figure, many in ((("join", great, ALL), 201), (("less", LOW, nine), 10)):
                error = raised(call, figure, None)
                self.assertEqual((kind_of(error), error.given), (errors.TooMany, many))
        self.assert_plain([telling(great, (HALF, HALF)), telling(deep, ORIGIN), telling(nine, EAST)], ["in", "out", "in"])

    def test_repeats_and_polygons(self):
        row = ("repeat", 3, (TWO, NIL), DISC)
        for x, wanted in ((0, "in"), (1, "rim"), (2, "in"), (3, "rim"), (4, "in"), (5, "rim"), (6, "out"), (-1, "rim"), (-2, "out")):
            self.assert_plain(telling(row, point(x, 0)), wanted)
        strip = ("repeat", 4, EAST, SQUARE)
        for x, wanted in ((0, "rim"), (1, "in"), (2, "in"), (3, "in"), (4, "rim"), (5, "out")):
            self.assert_plain(telling(strip, point(x, Fraction(1, 2))), wanted)
            self.assertEqual(telling(strip, point(x, 0)), "out" if x == 5 else "rim")
        house = polygon((0, 0), (2, 0), (2, 1), (1, 2), (0, 1))
        for place, wanted in ((point(1, 2), "rim"), (point(1, 1), "in"), (point(0, 2), "out"), (point(Fraction(3, 2), Fraction(3, 2)), "rim"), ((root_of(TWO), HALF), "in")):
            self.assert_plain(telling(house, place), wanted)
        turned = ("led", lead(0, 1, True, 0, 0), box(0, 0, 3, 1))
        self.assert_plain(telling(turned, (HALF, TWO)), "in")
        self.assert_plain(telling(turned, (plus(NIL, HALF), (3, 1))), "rim")


if __name__ == "__main__":
    unittest.main()
