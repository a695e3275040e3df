"""Lines, circles and places: forms, sides, what two curves have in common, touching ([8], [9])."""

import random
import unittest
from decimal import Decimal, localcontext
from fractions import Fraction
from math import gcd

from planehall.curves import circle_through, crossings, do_touch, form_of, is_curve, is_place, line_through, sign_at
from planehall.roots import order, plus, root_of, times
from tests.helpers import (
    DIGITS, FLOOR, HALF, MINUS, NIL, ONE, POST, RING, ROOT_THREE, ROOT_TWO, THREE, TWO, Told,
    circle, decimal, fraction, is_near, line, pair, point,
)

BIG = 10 ** 200
ORIGIN = (NIL, NIL)
NO_ROOT_TWO = (1, 0, -2, False)
HALF_ROOT, NO_HALF_ROOT = (2, 0, -1, True), (2, 0, -1, False)


def ten_value(curve, place):
    """The value of a curve at a place to many digits."""
    with localcontext() as context:
        context.prec = DIGITS
        kind, a, b, c = curve[0], decimal(curve[1]), decimal(curve[2]), decimal(curve[3])
        u, v = decimal(place[0]), decimal(place[1])
        if kind == "line":
            return a * u + b * v - c
        return (u - a) ** 2 + (v - b) ** 2 - c


def some_curve(chance, size=3):
    if chance.random() < 0.5:
        x, y = Fraction(chance.randint(-size, size), chance.randint(1, 2)), chance.randint(-size, size)
        return circle(x, y, Fraction(chance.randint(1, 9), chance.choice((1, 1, 2, 4))))
    a, b = chance.randint(-size, size), chance.randint(-size, size)
    return line(a, b or (not a), Fraction(chance.randint(-4, 4), chance.randint(1, 3)))


def many_common(curve, second):
    """How many places two curves have in common, found by fractions alone."""
    first, other = sorted((curve, second), reverse=True)
    a, b, c = [fraction(part) for part in first[1:]]
    d, e, f = [fraction(part) for part in other[1:]]
    if other[0] == "line":
        return 0 if a * e == b * d else 1
    if first[0] == "circle":
        # The square of the centres' distance beside those of the sum and the difference of both radii.
        far = (a - d) ** 2 + (b - e) ** 2
        room = 4 * c * f - (far - c - f) ** 2
        return 0 if far == 0 or room < 0 else 1 if room == 0 else 2
    room = f * (a * a + b * b) - (a * d + b * e - c) ** 2
    return 0 if room < 0 else 1 if room == 0 else 2


class Forms(Told, unittest.TestCase):
    def test_lines_told_as_any_multiple(self):
        for wanted in (
            FLOOR, POST, line(1, 1, 0), line(1, -1, 3), line(2, 3, -5), line(0, 3, -2), line(5, 0, 7), line(6, -4, 3),
            line(BIG + 1, -BIG, 7), line(0, BIG, 1), line(1, -7, 0),
        ):
            for many in (1, -1, 2, -2, Fraction(1, 2), Fraction(-1, 3), Fraction(22, 7), Fraction(-5, 9), BIG, Fraction(-1, BIG)):
                told = line(*[fraction(part) * many for part in wanted[1:]])
                self.assert_plain(form_of(told), wanted)

    def test_circles_are_their_own_form(self):
        for told in (RING, circle(Fraction(-1, 2), Fraction(2, 3), Fraction(4, 9)), circle(2, 4, 6), circle(-2, -4, 6)):
            self.assert_plain(form_of(told), told)

    def test_form_of_many(self):
        chance = random.Random(21)
        for _ in range(300):
            a, b, c = [Fraction(chance.randint(-9, 9), chance.randint(1, 9)) for _ in range(3)]
            if a or b:
                form = form_of(line(a, b, c))
                self.assertEqual([part[1] for part in form[1:]], [1, 1, 1])
                self.assertEqual(gcd(*[part[0] for part in form[1:]]), 1)
                self.assertGreater([part[0] for part in form[1:3] if part[0]][0], 0)
                d, e, f = [part[0] for part in form[1:]]
                self.assertEqual([a * e, a * f, b * f], [b * d, c * d, c * e])
                self.assert_plain(form_of(form), form)
                self.assertIs(is_curve(form), True)


class Signs(Told, unittest.TestCase):
    def test_circle(self):
        for place, wanted in (
            (ORIGIN, -1), ((ONE, NIL), 0), ((NIL, MINUS), 0), ((HALF_ROOT, HALF_ROOT), 0), ((HALF_ROOT, NO_HALF_ROOT), 0),
            ((ONE, ONE), 1), ((ROOT_TWO, NIL), 1), ((HALF, (4, 0, -3, True)), 0), ((HALF, HALF_ROOT), -1), ((HALF_ROOT, NIL), -1),
            (point(Fraction(3, 5), Fraction(4, 5)), 0), ((HALF_ROOT, (5, 7)), 1), ((HALF_ROOT, (7, 10)), -1),
        ):
            self.assert_plain(sign_at(RING, place), wanted)

    def test_sides_of_lines_as_they_are_told(self):
        for told, place, wanted in (
            (FLOOR, (ROOT_TWO, HALF_ROOT), 1), (FLOOR, (ROOT_TWO, NO_HALF_ROOT), -1), (FLOOR, (ROOT_TWO, NIL), 0),
            (line(0, -1, 0), (ROOT_TWO, HALF_ROOT), -1), (line(0, -1, 0), (ROOT_TWO, NO_HALF_ROOT), 1), (line(0, -3, 0), (NIL, NIL), 0),
            (line(1, -1, 0), (ROOT_TWO, ROOT_TWO), 0), (line(1, -1, 0), (ROOT_TWO, (1, -2, -1, True)), -1),
            (line(-2, 2, 0), (ROOT_TWO, (1, -2, -1, True)), 1), (line(1, 0, 1), (ROOT_TWO, NIL), 1), (line(-1, 0, -1), (ROOT_TWO, NIL), -1),
            (line(1, 0, 0), (NO_ROOT_TWO, ROOT_TWO), -1), (line(1, 1, 0), (NO_ROOT_TWO, ROOT_TWO), 0),
            (line(1, 0, Fraction(3, 2)), (ROOT_TWO, NIL), -1), (line(1, 0, Fraction(7, 5)), (ROOT_TWO, NIL), 1),
        ):
            self.assert_plain(sign_at(told, place), wanted)

    def test_very_near_to_a_curve(self):
        small = Fraction(1, BIG)
        for side in (-1, 0, 1):
            self.assert_plain(sign_at(circle(0, 0, 1 - side * small), (HALF_ROOT, NO_HALF_ROOT)), side)
            self.assert_plain(sign_at(line(1, -1, -side * small), (ROOT_TWO, ROOT_TWO)), side)
            self.assert_plain(sign_at(RING, (pair(1 + side * small), NIL)), side)
            self.assert_plain(sign_at(circle(BIG, 0, BIG * BIG), (pair(-side * small), NIL)), side)

    def test_many(self):
        chance = random.Random(22)
        places = [(NIL, ONE), (ROOT_TWO, HALF), (HALF_ROOT, NO_ROOT_TWO), ((1, -2, -1, True), (1, 0, -8, False)), (ROOT_THREE, (1, -4, 1, False))]
        for _ in range(300):
            curve, place = some_curve(chance), chance.choice(places)
            ten = ten_value(curve, place)
            wanted = 0 if abs(ten) < Decimal(10) ** -90 else 1 if ten > 0 else -1
            self.assert_plain(sign_at(curve, place), wanted)


class Crossings(Told, unittest.TestCase):
    def are_common(self, curve, second, places):
        self.assert_plain(crossings(curve, second), places)
        self.assert_plain(crossings(second, curve), places)

    def test_two_lines(self):
        for first, second, places in (
            (FLOOR, POST, (ORIGIN,)), (line(1, 1, 1), line(1, -1, 0), ((HALF, HALF),)), (line(2, 3, 5), line(7, -1, 6), ((ONE, ONE),)),
            (FLOOR, line(0, 2, 1), ()), (POST, line(1, 0, 5), ()), (line(1, 2, 3), line(-2, -4, 7), ()),
            (line(1, 2, 3), line(3, 5, -2), (point(-19, 11),)), (line(BIG, 1, 0), line(BIG - 1, 1, 1), (point(-1, BIG),)),
        ):
            self.are_common(first, second, places)

    def test_curves_that_are_one(self):
        for first, second in (
            (RING, RING), (FLOOR, line(0, -5, 0)), (line(1, 2, 3), line(Fraction(-1, 2), -1, Fraction(-3, 2))),
            (POST, line(-7, 0, 0)), (circle(1, 2, 3), circle(1, 2, 3)), (line(0, 2, 1), line(0, -1, Fraction(-1, 2))),
        ):
            self.are_common(first, second, ())
            self.assertIs(do_touch(first, second), False)

    def test_line_and_circle(self):
        for first, second, places in (
            (RING, FLOOR, ((MINUS, NIL), (ONE, NIL))), (RING, POST, ((NIL, MINUS), (NIL, ONE))),
            (RING, line(-3, 0, 0), ((NIL, MINUS), (NIL, ONE))),
            (RING, line(-1, 1, 0), ((NO_HALF_ROOT, NO_HALF_ROOT), (HALF_ROOT, HALF_ROOT))),
            (RING, line(1, 1, 0), ((NO_HALF_ROOT, HALF_ROOT), (HALF_ROOT, NO_HALF_ROOT))),
            (RING, line(-1, -1, 0), ((NO_HALF_ROOT, HALF_ROOT), (HALF_ROOT, NO_HALF_ROOT))),
            (RING, line(1, 0, Fraction(1, 2)), ((HALF, (4, 0, -3, False)), (HALF, (4, 0, -3, True)))),
            (RING, line(0, -2, -1), (((4, 0, -3, False), HALF), ((4, 0, -3, True), HALF))),
            (RING, line(1, 1, 1), ((NIL, ONE), (ONE, NIL))), (RING, line(0, 1, 2), ()), (RING, line(1, 0, -2), ()), (RING, line(1, 1, 2), ()),
            (circle(0, 0, 2), line(1, 1, 2), ((ONE, ONE),)), (circle(0, 0, 2), line(-1, 1, 2), ((MINUS, ONE),)),
            (circle(1, 2, 4), line(1, 0, 3), ((THREE, TWO),)), (circle(1, 2, 4), line(0, 3, 0), ((ONE, NIL),)),
            (circle(Fraction(1, 2), 0, Fraction(1, 4)), POST, (ORIGIN,)), (circle(0, 0, 25), line(3, 4, 25), (point(3, 4),)),
        ):
            self.are_common(first, second, places)
            self.assertIs(do_touch(first, second), len(places) == 1)
            self.assertIs(do_touch(second, first), len(places) == 1)

    def test_two_circles(self):
        for first, second, places in (
            (RING, circle(1, 0, 1), ((HALF, (4, 0, -3, False)), (HALF, (4, 0, -3, True)))),
            (RING, circle(1, 1, 1), ((NIL, ONE), (ONE, NIL))), (RING, circle(0, 1, 1), (((4, 0, -3, False), HALF), ((4, 0, -3, True), HALF))),
            (RING, circle(2, 0, 1), ((ONE, NIL),)), (RING, circle(0, -2, 1), ((NIL, MINUS),)), (RING, circle(3, 0, 4), ((ONE, NIL),)),
            (RING, circle(Fraction(1, 2), 0, Fraction(1, 4)), ((ONE, NIL),)), (RING, circle(0, 1, 4), ((NIL, MINUS),)),
            (circle(0, 0, 25), circle(6, 8, 25), (point(3, 4),)), (circle(0, 0, 100), circle(3, 4, 25), (point(6, 8),)),
            (RING, circle(0, 0, 2), ()), (RING, circle(0, 0, Fraction(1, 2)), ()), (RING, circle(3, 0, 1), ()), (RING, circle(1, 0, 9), ()),
            (RING, circle(0, Fraction(1, 2), Fraction(1, 9)), ()), (RING, circle(2, 0, 2), (((3, 4), (16, 0, -7, False)), ((3, 4), (16, 0, -7, True)))),
        ):
            self.are_common(first, second, places)
            self.assertIs(do_touch(first, second), len(places) == 1)
            self.assertIs(do_touch(second, first), len(places) == 1)

    def test_lines_never_touch(self):
        self.assertIs(do_touch(FLOOR, POST), False)
        self.assertIs(do_touch(line(1, 2, 3), line(1, 3, 5)), False)
        self.assertIs(do_touch(FLOOR, line(0, 1, 1)), False)

    def test_nearly_touching(self):
        small = Fraction(1, BIG)
        for side, many in ((-1, 2), (0, 1), (1, 0)):
            self.assertEqual(len(crossings(RING, line(1, 0, 1 + side * small))), many)
            self.assertEqual(len(crossings(RING, circle(2 + side * small, 0, 1))), many)
            self.assertEqual(len(crossings(circle(0, 0, 4), circle(1 - side * small, 0, 1))), many)
            self.assertIs(do_touch(RING, line(1, 0, 1 + side * small)), side == 0)
            self.assertIs(do_touch(RING, circle(2 + side * small, 0, 1)), side == 0)
            self.assertIs(do_touch(circle(0, 0, 4), circle(1 - side * small, 0, 1)), side == 0)

    def test_multiples_have_the_same_places(self):
        for first in (RING, circle(2, 3, 5), line(1, 2, 4)):
            for second in (line(1, 1, 1), line(2, -3, Fraction(1, 2)), line(0, 1, 1), line(1, 0, Fraction(1, 3))):
                for many in (-1, 3, Fraction(-2, 7)):
                    other = line(*[fraction(part) * many for part in second[1:]])
                    self.are_common(first, other, crossings(first, second))

    def test_many(self):
        chance = random.Random(23)
        seen = {0: 0, 1: 0, 2: 0}
        for _ in range(1500):
            first, second = some_curve(chance), some_curve(chance)
            if form_of(first) == form_of(second):
                self.are_common(first, second, ())
                continue
            places = crossings(first, second)
            self.assert_plain(crossings(second, first), places)
            self.assertEqual(len(places), many_common(first, second), (first, second))
            seen[len(places)] += 1
            for place in places:
                self.assertIs(is_place(place), True)
                self.assert_plain([sign_at(first, place), sign_at(second, place)], [0, 0])
                self.assertTrue(is_near(ten_value(first, place), Decimal(0)) and is_near(ten_value(second, place), Decimal(0)))
            if len(places) == 2:
                ahead = order(places[0][0], places[1][0]) or order(places[0][1], places[1][1])
                self.assertEqual(ahead, -1)
            lines = first[0] == "line" and second[0] == "line"
            self.assertIs(do_touch(first, second), len(places) == 1 and not lines)
        self.assertGreater(min(seen.values()), 50)

    def test_hundreds_of_digits(self):
        for first, second in (
            (circle(0, 0, BIG), line(BIG + 1, BIG - 1, 7)), (circle(Fraction(1, BIG), Fraction(BIG, BIG + 1), 2), RING),
            (circle(BIG, BIG, BIG * BIG), circle(-BIG, 3, 9 * BIG * BIG)),
        ):
            places = crossings(first, second)
            self.assertEqual(len(places), 2)
            for place in places:
                self.assert_plain([sign_at(first, place), sign_at(second, place)], [0, 0])
                self.assertIs(is_place(place), True)


class Through(Told, unittest.TestCase):
    def test_lines(self):
        for first, second, wanted in (
            (ORIGIN, (ONE, ONE), line(1, -1, 0)), (ORIGIN, (ONE, NIL), FLOOR), (ORIGIN, (NIL, (-5, 3)), POST),
            ((HALF, NIL), (HALF, ONE), line(2, 0, 1)), (point(1, 2), point(3, 5), line(3, -2, -1)),
            (point(0, Fraction(1, 3)), point(7, Fraction(1, 3)), line(0, 3, 1)), (point(-1, 1), point(1, -1), line(1, 1, 0)),
        ):
            self.assert_plain(line_through(first, second), wanted)
            self.assert_plain(line_through(second, first), wanted)

    def test_lines_through_many(self):
        chance = random.Random(24)
        for _ in range(200):
            first, second = [point(Fraction(chance.randint(-9, 9), chance.randint(1, 9)), chance.randint(-9, 9)) for _ in range(2)]
            if first != second:
                found = line_through(first, second)
                self.assert_plain(found, form_of(found))
                self.assert_plain([found[0], sign_at(found, first), sign_at(found, second)], ["line", 0, 0])

    def test_circles(self):
        for points, wanted in (
            (((ONE, NIL), (NIL, ONE), (MINUS, NIL)), RING), ((ORIGIN, (ONE, NIL), (NIL, ONE)), circle(Fraction(1, 2), Fraction(1, 2), Fraction(1, 2))),
            ((point(3, 4), point(-3, 4), point(5, 0)), circle(0, 0, 25)), ((point(2, 0), point(0, 2), point(0, 0)), circle(1, 1, 2)),
            ((point(0, 0), point(4, 0), point(1, 1)), circle(2, -1, 5)),
        ):
            for one in range(3):
                for two in range(3):
                    three = 3 - one - two
                    if one != two:
                        self.assert_plain(circle_through(points[one], points[two], points[three]), wanted)

    def test_no_circles(self):
        for points in (
            (ORIGIN, (ONE, ONE), (TWO, TWO)), (ORIGIN, ORIGIN, ORIGIN), (ORIGIN, ORIGIN, (ONE, NIL)), ((ONE, NIL), ORIGIN, ORIGIN),
            (ORIGIN, (ONE, NIL), ORIGIN), (point(1, 0), point(1, 5), point(1, -7)), (point(0, 2), point(9, 2), point(-1, 2)),
            (point(0, Fraction(1, 3)), point(1, 1), point(Fraction(3, 2), Fraction(4, 3))),
        ):
            self.assertIsNone(circle_through(*points))

    def test_circles_through_many(self):
        chance = random.Random(25)
        for _ in range(300):
            points = [point(Fraction(chance.randint(-4, 4), chance.randint(1, 2)), chance.randint(-3, 3)) for _ in range(3)]
            (x, y), (u, v), (s, t) = [(fraction(a), fraction(b)) for a, b in points]
            found = circle_through(*points)
            if (u - x) * (t - y) == (v - y) * (s - x):
                self.assertIsNone(found)
            else:
                self.assertIs(is_curve(found), True)
                self.assert_plain([found[0]] + [sign_at(found, one) for one in points], ["circle", 0, 0, 0])

    def test_nearly_on_one_line(self):
        found = circle_through(ORIGIN, (ONE, NIL), point(2, Fraction(1, BIG)))
        self.assert_plain([sign_at(found, place) for place in (ORIGIN, (ONE, NIL), point(2, Fraction(1, BIG)))], [0, 0, 0])


class Places(Told, unittest.TestCase):
    def test_one_field(self):
        for place, wanted in (
            (ORIGIN, True), ((ROOT_TWO, NIL), True), ((NIL, ROOT_TWO), True), ((ROOT_TWO, HALF_ROOT), True), ((ROOT_TWO, ROOT_THREE), False),
            ((ROOT_TWO, (1, 0, -8, False)), True), (((1, -2, -1, True), NO_ROOT_TWO), True), (((1, 0, -6, True), ROOT_TWO), False),
            ((root_of(TWO), plus(ONE, times(THREE, root_of(HALF)))), True),
        ):
            self.assertIs(is_place(place), wanted)
            self.assertIs(is_place(value=place[::-1]), wanted)


if __name__ == "__main__":
    unittest.main()
