"""Rows near places, lone curves, all rows, points of rows and samples ([19] to [23])."""

import itertools
import random
import unittest
from fractions import Fraction

from planehall import errors
from planehall.chart import corners, edges, faces
from planehall.curves import crossings, form_of, sign_at
from planehall.roots import plus, root_of
from planehall.rows import are_samples, lone_curves, point_with, rows_near, rows_of, samples_of
from tests.helpers import (
    FLOOR, HALF, MINUS, NIL, ONE, POST, RING, ROOT_TWO, STRAY, TWO, Told, circle, fraction, kind_of, line, point, raised,
)
from tests.oracle import bends_at, parts_in_order, side_row, some_curves

F, T, N = False, True, None
ORIGIN, EAST = (NIL, NIL), (ONE, NIL)
CROSS, TOUCH = (RING, FLOOR), (RING, line(1, 0, 1))


def rows_by_bends(curves, place):
    return tuple(sorted({side_row(curves, x, y) for x, y in bends_at(curves, place)}))


def place_on(curve):
    """A place on a circle, a point on a line."""
    kind, a, b, c = curve
    if kind == "circle":
        return (plus(a, root_of(c)), b)
    a, b, c = fraction(a), fraction(b), fraction(c)
    return point(a * c / (a * a + b * b), b * c / (a * a + b * b))


def row_at_point(curves, place):
    return side_row(curves, fraction(place[0]), fraction(place[1]))


def all_sides(many):
    return list(itertools.product((False, True), repeat=many))


class Near(Told, unittest.TestCase):
    def check(self, curves, place, *wanted):
        self.assert_plain(rows_near(curves, place), tuple(wanted))
        self.assertEqual(rows_by_bends(curves, place), tuple(wanted))

    def test_off_all_curves_and_without_curves(self):
        self.check((), ORIGIN, ())
        self.check((), (ROOT_TWO, NIL), ())
        self.check(CROSS, (NIL, HALF), (T, F))
        self.check(CROSS, (ROOT_TWO, ROOT_TWO), (F, F))
        self.check(CROSS, ((-3, 1), (-7, 2)), (F, T))

    def test_on_one_curve(self):
        self.check(CROSS, ORIGIN, (T, F), (T, T))
        self.check(CROSS, (ROOT_TWO, NIL), (F, F), (F, T))
        self.check((RING,), EAST, (F,), (T,))
        self.check((RING,), (root_of(HALF), root_of(HALF)), (F,), (T,))
        self.check((POST,), (NIL, ROOT_TWO), (F,), (T,))
        self.check((FLOOR, RING, POST), (NIL, ONE), (F, F, F), (F, F, T), (F, T, F), (F, T, T))

    def test_touching_from_inside_and_from_outside(self):
        self.check(TOUCH, EAST, (F, F), (F, T), (T, T))
        self.check((RING, circle(2, 0, 1)), EAST, (F, F), (F, T), (T, F))
        self.check((RING, circle(Fraction(1, 2), 0, Fraction(1, 4))), EAST, (F, F), (T, F), (T, T))
        self.check((RING, circle(-1, 0, 4)), EAST, (F, F), (F, T), (T, T))
        self.check((line(1, 1, 2), circle(0, 0, 2)), (ONE, ONE), (F, F), (T, F), (T, T))

    def test_several_curves_through_one_corner(self):
        self.check((FLOOR, POST, line(1, 1, 0)), ORIGIN, *[row for row in all_sides(3) if row not in ((F, F, T), (T, T, F))])
        # A circle, a greater one, a line, circles on the other side: all with one way and unlike bends.
        bent = (circle(1, 0, 1), circle(2, 0, 4), POST, circle(-1, 0, 1), circle(-3, 0, 9))
        self.check(bent, ORIGIN, *sorted([
            (F, F, F, F, F), (F, T, F, F, F), (T, T, F, F, F), (F, F, T, F, F), (F, F, T, F, T), (F, F, T, T, T)]))
        self.check((POST, circle(1, 0, 1), FLOOR), ORIGIN, *sorted([
            (T, F, F), (T, F, T), (F, F, F), (F, F, T), (F, T, F), (F, T, T)]))

    def test_circles_with_one_middle(self):
        two = (RING, circle(0, 0, 4))
        self.check(two, EAST, (F, T), (T, T))
        self.check(two, (TWO, NIL), (F, F), (F, T))
        self.check(two, ORIGIN, (T, T))

    def test_places_of_roots(self):
        slope = line(1, -1, 0)
        self.check((RING, slope), (root_of(HALF), root_of(HALF)), *all_sides(2))
        lens = (RING, circle(1, 0, 1))
        for place in crossings(*lens):
            self.check(lens, place, *all_sides(2))
        here = crossings(RING, slope)[1]
        self.check((RING, slope, line(1, 1, 0), line(2, 2, 1)), here, *[side + (F, F) for side in all_sides(2)])
        # Three circles through both places of two of them.
        three = (*lens, circle(Fraction(1, 2), 0, Fraction(3, 4)))
        for place in crossings(*lens):
            self.assertEqual(len(rows_near(three, place)), 6)
            self.check(three, place, *rows_by_bends(three, place))

    def test_thresholds_of_unlike_normals(self):
        # All touch at (1, 1), told by centres at either side and as far as 100.
        for far in (1, 2, 3, Fraction(1, 3), 100, -1, -2, Fraction(-1, 3), -100):
            for other in (1, -1, 5, Fraction(1, 7), -7):
                if far != other:
                    curves = (circle(1 + far, 1 + far, 2 * far * far), circle(1 + other, 1 + other, 2 * other * other), line(1, 1, 2))
                    self.check(curves, (ONE, ONE), *rows_by_bends(curves, (ONE, ONE)))
                    self.assertEqual(len(rows_near(curves, (ONE, ONE))), 4)

    def test_the_order_of_curves_is_that_of_rows(self):
        chance = random.Random(71)
        for _ in range(30):
            curves = some_curves(chance, 4)
            for order in itertools.permutations(range(4)):
                turned = tuple(curves[k] for k in order)
                for place in corners(curves)[:3]:
                    self.assertEqual(rows_near(turned, place), tuple(sorted(tuple(row[k] for k in order) for row in rows_near(curves, place))))

    def test_all_corners_of_many_curves(self):
        chance = random.Random(72)
        for many in (1, 2, 3, 4, 5, 6, 7, 8, 9) * 8:
            curves = some_curves(chance, many)
            for place in corners(curves):
                near = rows_near(curves, place)
                self.assertEqual(near, rows_by_bends(curves, place), (curves, place))
                through = len([curve for curve in curves if sign_at(curve, place) == 0])
                self.assertLessEqual(len(near), 2 * through)
                self.assertGreaterEqual(len(near), 3)

    def test_all_edges_and_faces_of_many_curves(self):
        chance = random.Random(73)
        for many in (1, 2, 3, 4, 5, 6) * 3:
            curves = some_curves(chance, many)
            on_edges, in_gaps = parts_in_order(curves, corners(curves))
            for place in on_edges:
                near = rows_near(curves, place)
                self.assertEqual(near, rows_by_bends(curves, place), (curves, place))
                self.assertEqual(len(near), 2)
            for place in in_gaps + list(faces(curves)):
                self.assert_plain(rows_near(curves, place), (tuple(sign_at(curve, place) < 0 for curve in curves),))

    def test_great_and_small_numbers(self):
        big = 10 ** 60
        curves = (circle(big, 0, big * big), POST, circle(Fraction(1, big), 0, Fraction(1, big * big)), circle(-big, 0, big * big))
        self.assert_plain(rows_near(curves, ORIGIN), tuple(sorted([
            (F, F, F, F), (T, F, F, F), (T, F, T, F), (F, T, F, F), (F, T, F, T)])))
        near = (circle(1, 0, 1), circle(1 + Fraction(1, big), 0, (1 + Fraction(1, big)) ** 2))
        self.assert_plain(rows_near(near, ORIGIN), ((F, F), (F, T), (T, T)))


class Lone(Told, unittest.TestCase):
    def test_by_hand(self):
        for curves, wanted in (
            ((), ()), ((RING,), (0,)), ((FLOOR,), (0,)), (CROSS, ()), (TOUCH, ()), ((RING, line(1, 0, 2)), (0, 1)), ((FLOOR, line(0, 1, 1), POST), ()),
            ((FLOOR, line(0, 1, 1), line(0, 1, 2)), (0, 1, 2)), ((RING, circle(0, 0, 4), circle(5, 0, 9)), (0,)), ((circle(9, 9, 1), RING, FLOOR), (0,)),
            ((RING, circle(3, 0, 1), circle(0, 0, 2)), (0, 1, 2)), ((RING, circle(2, 0, 1), circle(0, 0, 2)), ()),
        ):
            self.assert_plain(lone_curves(curves), wanted)

    def test_of_many_curves(self):
        chance = random.Random(74)
        for many in (1, 2, 2, 3, 3, 4, 5, 7) * 8:
            curves = some_curves(chance, many)
            met = {k for place in corners(curves) for k, curve in enumerate(curves) if sign_at(curve, place) == 0}
            self.assert_plain(lone_curves(curves), tuple(k for k in range(many) if k not in met))


class All(Told, unittest.TestCase):
    def check(self, curves, *wanted):
        self.assert_plain(rows_of(curves), tuple(wanted))

    def test_by_hand(self):
        self.check((), ())
        self.check((RING,), (F,), (T,))
        self.check((POST,), (F,), (T,))
        self.check(CROSS, *all_sides(2))
        self.check(TOUCH, (F, F), (F, T), (T, T))
        self.check((RING, circle(2, 0, 1)), (F, F), (F, T), (T, F))
        self.check((RING, circle(0, 0, 4)), (F, F), (F, T), (T, T))
        self.check((FLOOR, line(0, 1, 1)), (F, F), (F, T), (T, T))
        self.check((FLOOR, POST, line(1, 1, 1)), *[row for row in all_sides(3) if row != (T, T, F)])
        self.check((FLOOR, POST, line(1, 1, 0)), *[row for row in all_sides(3) if row not in ((F, F, T), (T, T, F))])

    def test_by_corners_and_lone_curves(self):
        chance = random.Random(75)
        for many in (1, 2, 3, 4, 5, 6, 7, 8, 9) * 7:
            curves = some_curves(chance, many)
            places = list(corners(curves)) + [place_on(curves[k]) for k in lone_curves(curves)]
            self.assert_plain(rows_of(curves), tuple(sorted({row for place in places for row in rows_near(curves, place)})))
            self.assertEqual(rows_of(curves), tuple(sorted({row for place in places for row in rows_by_bends(curves, place)})))

    def test_all_points_have_some(self):
        chance = random.Random(76)
        for many in (1, 2, 3, 4, 5, 6, 7) * 4:
            curves = some_curves(chance, many)
            rows, seen = rows_of(curves), set()
            for _ in range(400):
                seen.add(side_row(curves, Fraction(chance.randint(-6001, 6001), 2003), Fraction(chance.randint(-6001, 6001), 2011)))
            self.assertLessEqual(seen, set(rows))
            self.assertEqual({row_at_point(curves, place) for place in faces(curves)}, set(rows))

    def test_of_one_place(self):
        chance = random.Random(77)
        for _ in range(60):
            curves = some_curves(chance, chance.randint(1, 5))
            rows = rows_of(curves)
            for edge in edges(curves):
                self.assertLess(edge[0], len(curves))
            for place in list(corners(curves)) + [place_on(curve) for curve in curves]:
                self.assertLessEqual(set(rows_near(curves, place)), set(rows))


class Points(Told, unittest.TestCase):
    def test_each_row_or_none(self):
        chance = random.Random(78)
        for many in (0, 1, 2, 3, 4, 5, 6) * 5:
            curves = some_curves(chance, many)
            rows = rows_of(curves)
            for row in all_sides(many):
                found = point_with(curves, row)
                self.assertEqual(found is not None, row in rows)
                if found is not None:
                    self.assert_point(found)
                    self.assertTrue(all(sign_at(curve, found) != 0 for curve in curves))
                    self.assertEqual(row_at_point(curves, found), row)

    def assert_point(self, found):
        self.assert_plain(found, tuple((fraction(part).numerator, fraction(part).denominator) for part in found))

    def test_by_hand(self):
        self.assertIs(point_with(TOUCH, (T, F)), None)
        self.assertIs(point_with((RING, circle(2, 0, 1)), (T, T)), None)
        self.assertIs(point_with((RING, circle(0, 0, 4)), (T, F)), None)
        self.assertIsNot(point_with((), ()), None)
        x, y = [fraction(part) for part in point_with(CROSS, (T, F))]
        self.assertTrue(x * x + y * y < 1 and y > 0)
        small = Fraction(1, 10 ** 50)
        x, y = [fraction(part) for part in point_with((RING, circle(2 - small, 0, 1)), (T, T))]
        self.assertTrue(1 - small < x < 1)

    def test_rows_that_are_wrong(self):
        for curves in ((), (RING,), CROSS, (RING, FLOOR, POST)):
            right = (True,) * len(curves)
            for wrong in (None, True, 0, "", [], list(right), right + (T,), right[:-1] if right else (F,), {}, right + (None,), (right,) + right, {0: T}):
                self.assert_row(None, curves, wrong)
            for spot in range(len(curves)):
                for wrong in (None, 0, 1, "", "True", (), (T,), [T], ORIGIN):
                    self.assert_row(spot, curves, right[:spot] + (wrong,) + right[spot + 1:])
                    self.assert_row(spot, curves, right[:spot] + (wrong,) * (len(curves) - spot))
        self.assert_row(None, (RING,), ())

    def assert_row(self, index, curves, wrong):
        for error in (raised(point_with, curves, wrong), raised(point_with, row=wrong, curves=curves)):
            self.assertIs(kind_of(error), errors.InvalidRow, (curves, wrong))
            self.assert_plain(error.index, index)

    def test_curves_are_checked_ahead_of_rows(self):
        self.assert_index(None, point_with, None, None)
        self.assert_index(1, point_with, (RING, RING), None)
        self.assert_index(0, point_with, ((T,),), (T,))


class Samples(Told, unittest.TestCase):
    def test_are_samples(self):
        chance = random.Random(79)
        for many in (0, 1, 2, 3, 4, 5, 6, 7, 8, 9) * 4:
            curves = some_curves(chance, many)
            points = samples_of(curves)
            self.assertIs(kind_of(points), tuple)
            self.assertIs(are_samples(curves, points), True)
            self.assertEqual({row_at_point(curves, place) for place in points}, set(rows_of(curves)))
            self.assertIs(are_samples(curves, points[::-1] + points), True)
            self.assertIs(are_samples(points=faces(curves), curves=curves), True)
            for row in rows_of(curves):
                left = tuple(place for place in points if row_at_point(curves, place) != row)
                self.assertIs(are_samples(curves, left), False)

    def test_by_hand(self):
        four = ((NIL, HALF), (NIL, (-1, 2)), (NIL, TWO), (NIL, (-2, 1)))
        self.assertIs(are_samples(CROSS, four), True)
        for spot in range(4):
            self.assertIs(are_samples(CROSS, four[:spot] + four[spot + 1:]), False)
            self.assertIs(are_samples(CROSS, four + (four[spot],)), True)
        self.assertIs(are_samples(TOUCH, ((NIL, NIL), (NIL, TWO), (TWO, NIL))), True)
        self.assertIs(are_samples(TOUCH, ((NIL, NIL), (NIL, TWO))), False)
        self.assertIs(are_samples((), ((ONE, TWO),)), True)
        self.assertIs(are_samples((), ()), False)
        self.assertIs(are_samples((RING,), ()), False)

    def test_points_on_curves_are_none(self):
        four = ((NIL, HALF), (NIL, (-1, 2)), (NIL, TWO), (NIL, (-2, 1)))
        for wrong in (ORIGIN, EAST, (NIL, ONE), ((3, 5), (4, 5)), ((7, 1), NIL)):
            self.assertIs(are_samples(CROSS, four + (wrong,)), False)
            self.assertIs(are_samples(CROSS, (wrong,) + four), False)

    def test_whatever_it_is(self):
        four = ((NIL, HALF), (NIL, (-1, 2)), (NIL, TWO), (NIL, (-2, 1)))
        self.assertIs(are_samples(CROSS, four[0]), False)
        for wrong in STRAY + (list(four), {four: 1}, set(four), dict(enumerate(four)), (four,), "points"):
            self.assertIs(are_samples(CROSS, wrong), False, wrong)
            self.assertIs(are_samples(CROSS, four + (wrong,)), False, wrong)
            self.assertIs(are_samples((), (wrong,)), False, wrong)
        for wrong in (NIL, (NIL, ROOT_TWO), (NIL, (2, 2)), [NIL, HALF], (0, 1), (NIL, HALF, NIL), (NIL,), (MINUS, True)):
            self.assertIs(are_samples(CROSS, four + (wrong,)), False, wrong)
        self.assertIs(are_samples((FLOOR, form_of(line(0, -2, -2))), ((NIL, HALF), (NIL, TWO), (NIL, MINUS))), True)


if __name__ == "__main__":
    unittest.main()
