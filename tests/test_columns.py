"""Events, columns, stacks, walls and gaps ([10], [11]), by hand and against many digits."""

import random
import unittest
from decimal import Decimal, localcontext
from fractions import Fraction

from planehall.columns import events, gap_of, sample, stack, wall
from planehall.curves import crossings, form_of, sign_at
from planehall.roots import is_number, order
from tests.helpers import (
    DIGITS, FLOOR, HALF, MINUS, NIL, ONE, POST, RING, THREE, TWO, Told, circle, decimal, fraction, kind_of, line, pair, point,
)

CROSS = (RING, FLOOR)
SLOPE = line(1, -1, 0)
FALL = line(1, 1, 0)
SMALL = Decimal(10) ** -60


def ten_events(curves):
    """The events to many digits, each once."""
    found = []
    for k, curve in enumerate(curves):
        found += [decimal(place[0]) for other in curves[:k] for place in crossings(curve, other)]
        a, b, c = [decimal(part) for part in curve[1:]]
        if curve[0] == "circle":
            found += [a - c.sqrt(), a + c.sqrt()]
        elif b == 0:
            found.append(c / a)
    told = []
    for ten in sorted(found):
        if not told or ten - told[-1] > SMALL:
            told.append(ten)
    return told


def ten_arcs(curves, x):
    """The pairs of a height and an arc of all curves over x, from below; a circle's end is one arc, 0."""
    with localcontext() as context:
        context.prec = DIGITS
        return sorted(arcs_over(curves, x))


def arcs_over(curves, x):
    found = []
    for k, curve in enumerate(curves):
        a, b, c = [decimal(part) for part in curve[1:]]
        if curve[0] == "circle":
            room = c - (x - a) ** 2
            if abs(room) < SMALL:
                found.append((b, (k, 0)))
            elif room > 0:
                found += [(b - room.sqrt(), (k, -1)), (b + room.sqrt(), (k, 1))]
        elif b != 0:
            found.append(((c - a * x) / b, (k, 0)))
    return found


def ten_wall(curves, x):
    """The lots of curves in points of the upright line at x, from below."""
    lots, last = [], None
    for height, (k, _) in ten_arcs(curves, x):
        if last is None or height - last > Decimal(10) ** -25:
            lots.append([])
        lots[-1].append(k)
        last = height
    return tuple(tuple(sorted(lot)) for lot in lots)


def some_curves(chance, many):
    """Unlike forms with small numbers, so that much falls together."""
    found = []
    while len(found) < many:
        kind = chance.random()
        if kind < 0.6:
            curve = circle(chance.randint(-2, 2), chance.randint(-2, 2), chance.choice((1, 1, 1, 4, 2, Fraction(1, 4), 5)))
        elif kind < 0.75:
            curve = form_of(line(1, 0, Fraction(chance.randint(-4, 4), 2)))
        else:
            curve = form_of(line(chance.choice((-2, -1, 0, 0, 1, 2)), 1, Fraction(chance.randint(-4, 4), 2)))
        if curve not in found:
            found.append(curve)
    return tuple(found)


class Checks(Told):
    def check(self, curves):
        """All that is told of some curves, against many digits."""
        with localcontext() as context:
            context.prec = DIGITS
            told, tens = events(curves), ten_events(curves)
            self.assertIs(kind_of(told), tuple)
            self.assertEqual(len(told), len(tens))
            for number, ten in zip(told, tens):
                self.assertIs(is_number(number), True)
                self.assertLess(abs(decimal(number) - ten), SMALL)
            for column in range(len(told) + 1):
                self.check_column(curves, told, column)
            for event in range(len(told)):
                self.assert_plain(wall(curves, event), ten_wall(curves, tens[event]))

    def check_column(self, curves, told, column):
        found = sample(curves, column)
        self.assertEqual((kind_of(found), len(found), is_number(found)), (tuple, 2, True))
        if column > 0:
            self.assertEqual(order(told[column - 1], found), -1)
        if column < len(told):
            self.assertEqual(order(found, told[column]), -1)
        arcs = ten_arcs(curves, decimal(found))
        self.assert_plain(stack(curves, column), tuple(arc for _, arc in arcs))
        self.check_gaps(curves, column, found, [height for height, _ in arcs])

    def check_gaps(self, curves, column, x, heights):
        """A point in each gap over x, between the heights of its arcs."""
        marks = [heights[0] - 1] + heights + [heights[-1] + 1] if heights else [Decimal(-1), Decimal(1)]
        for gap, (low, high) in enumerate(zip(marks, marks[1:])):
            y = pair(Fraction((low + high) / 2).limit_denominator(10 ** 40))
            self.assert_plain(gap_of(curves, (x, y)), (column, gap))


class ByHand(Checks, unittest.TestCase):
    def test_no_curves(self):
        self.assert_plain([events(()), stack((), 0)], [(), ()])
        self.assertIs(is_number(sample((), 0)), True)
        self.assertEqual(len(sample((), 0)), 2)
        for place in ((NIL, NIL), (MINUS, HALF), point(10 ** 9, -3)):
            self.assert_plain(gap_of((), place), (0, 0))

    def test_one_curve(self):
        self.assert_plain([events((RING,)), stack((RING,), 0), stack((RING,), 1), stack((RING,), 2)], [(MINUS, ONE), (), ((0, -1), (0, 1)), ()])
        self.assert_plain([wall((RING,), 0), wall((RING,), 1)], [((0,),), ((0,),)])
        self.assert_plain([events((FLOOR,)), stack((FLOOR,), 0)], [(), ((0, 0),)])
        self.assert_plain([events((POST,)), stack((POST,), 0), stack((POST,), 1), wall((POST,), 0)], [(NIL,), (), (), ()])
        ends = circle(Fraction(1, 2), 3, 2)
        self.assert_plain(events((ends,)), ((4, -4, -7, False), (4, -4, -7, True)))

    def test_ring_and_floor(self):
        self.assert_plain(events(CROSS), (MINUS, ONE))
        self.assert_plain([stack(CROSS, k) for k in range(3)], [((1, 0),), ((0, -1), (1, 0), (0, 1)), ((1, 0),)])
        self.assert_plain([wall(CROSS, 0), wall(CROSS, 1)], [((0, 1),), ((0, 1),)])
        self.assert_plain(wall(CROSS[::-1], 0), ((0, 1),))
        self.assert_plain(stack(CROSS[::-1], 1), ((1, -1), (0, 0), (1, 1)))

    def test_upright_lines_through_ends_of_circles(self):
        left, right = line(1, 0, -1), line(1, 0, 1)
        curves = (left, RING, right, POST)
        self.assert_plain(events(curves), (MINUS, NIL, ONE))
        self.assert_plain([wall(curves, k) for k in range(3)], [((1,),), ((1,), (1,)), ((1,),)])
        self.assert_plain([stack(curves, k) for k in range(4)], [(), ((1, -1), (1, 1)), ((1, -1), (1, 1)), ()])
        with_floor = curves + (FLOOR,)
        self.assert_plain([wall(with_floor, k) for k in range(3)], [((1, 4),), ((1,), (4,), (1,)), ((1, 4),)])
        self.check(curves)
        self.check(with_floor)

    def test_several_curves_through_one_corner(self):
        curves = (SLOPE, FALL, FLOOR, POST, circle(1, 0, 1), circle(-1, 0, 1), circle(0, 1, 1), line(2, 1, 0))
        at = events(curves).index(NIL)
        self.assert_plain(wall(curves, at), ((0, 1, 2, 4, 5, 6, 7), (6,)))
        self.check(curves)

    def test_circles_that_end_at_one_x(self):
        curves = (circle(0, 0, 1), circle(2, 3, 1), circle(0, 5, 1), circle(2, -4, 1), circle(3, 1, 4), circle(-1, -2, 4))
        at = events(curves).index(ONE)
        self.assert_plain(wall(curves, at), ((3,), (5,), (0,), (4,), (1,), (2,)))
        self.check(curves)

    def test_ends_of_left_and_right_are_in_the_order_of_their_centres(self):
        for y in (-7, -1, 0, 1, 7):
            other = circle(2, Fraction(y, 3), 1)
            wanted = ((0, 1),) if y == 0 else ((1,), (0,)) if y < 0 else ((0,), (1,))
            self.assert_plain(wall((RING, other), 1), wanted)
            wanted = tuple(tuple(1 - k for k in lot) for lot in wanted) if y else wanted
            self.assert_plain(wall((other, RING), 1), wanted)

    def test_several_corners_at_one_x(self):
        curves = (circle(1, 0, 4), circle(-1, 0, 4), line(1, -1, 3), line(0, 1, 1))
        self.assert_plain(crossings(curves[0], curves[1]), ((NIL, (1, 0, -3, False)), (NIL, (1, 0, -3, True))))
        self.assert_plain(wall(curves, events(curves).index(NIL)), ((2,), (0, 1), (3,), (0, 1)))
        self.check(curves)

    def test_circles_with_one_middle_and_that_touch(self):
        for curves in (
            (RING, circle(0, 0, 2), circle(0, 0, Fraction(1, 4)), circle(0, 0, 4)),
            (RING, circle(2, 0, 1), circle(Fraction(1, 2), 0, Fraction(1, 4)), circle(0, 2, 1), circle(0, Fraction(-1, 2), Fraction(1, 4))),
            (RING, circle(0, -2, 1), circle(0, 1, 4), line(0, 1, 1), line(0, 1, -1), line(1, 0, 1)),
            (RING, circle(Fraction(6, 5), Fraction(8, 5), 1), form_of(line(3, 4, 5))),
        ):
            self.check(curves)
        self.assert_plain(wall((RING, circle(0, 2, 1)), 1), ((0,), (0, 1), (1,)))
        self.assert_plain(stack((RING, circle(0, 0, 2)), 2), ((1, -1), (0, -1), (0, 1), (1, 1)))

    def test_nine(self):
        self.check(tuple(line(1, 0, k) for k in range(-4, 5)))
        self.check(tuple(line(0, 1, k) for k in range(-4, 5)))
        self.check(tuple(circle(k, k * k - 6, 9) for k in range(-4, 5)))
        self.check(tuple(circle(k, 0, k * k) for k in (-4, -3, -2, -1, 1, 2, 3, 4)) + (POST,))
        self.check(tuple(form_of(line(k, 1, k * k)) for k in range(-4, 5)))

    def test_long_events(self):
        small = Fraction(1, 10 ** 50)
        for curves in (
            (RING, circle(small, 0, 1)), (RING, circle(2 + small, 0, 1)), (RING, circle(2 - small, 0, 1)),
            (RING, form_of(line(1, 0, 1 - small)), form_of(line(1, 0, 1 + small))), (RING, circle(0, 0, 1 + small), FLOOR),
        ):
            told = events(curves)
            for column in range(len(told) + 1):
                found = sample(curves, column)
                self.assertTrue(column == 0 or order(told[column - 1], found) == -1)
                self.assertTrue(column == len(told) or order(found, told[column]) == -1)
                wanted = tuple(arc for _, arc in ten_arcs(curves, decimal(found)))
                self.assert_plain(stack(curves, column), wanted)

    def test_hundreds_of_digits(self):
        big = 10 ** 200
        curves = (circle(big, 1, big * big + 1), circle(Fraction(1, big), Fraction(2, big + 1), 3), form_of(line(big + 1, 1 - big, 7)))
        told = events(curves)
        self.assertEqual(len(told), 10)
        for column in range(len(told) + 1):
            x = sample(curves, column)
            self.assertEqual(gap_of(curves, (x, pair(-(big ** 3)))), (column, 0))
            self.assertEqual(gap_of(curves, (x, pair(big ** 3))), (column, len(stack(curves, column))))


class Gaps(Checks, unittest.TestCase):
    def test_points_in_each_gap(self):
        for place, wanted in (
            ((NIL, (-2, 1)), (1, 0)), ((NIL, (-1, 2)), (1, 1)), ((NIL, HALF), (1, 2)), ((NIL, TWO), (1, 3)),
            (((-2, 1), MINUS), (0, 0)), (((-2, 1), ONE), (0, 1)), ((THREE, (-1, 9)), (2, 0)), ((THREE, (1, 9)), (2, 1)),
        ):
            self.assert_plain(gap_of(CROSS, place), wanted)

    def test_points_on_a_curve_or_at_an_event(self):
        for place in (
            (NIL, NIL), (NIL, ONE), (NIL, MINUS), point(Fraction(3, 5), Fraction(-4, 5)), (ONE, NIL), (ONE, HALF), (ONE, THREE),
            (MINUS, MINUS), (MINUS, NIL), (THREE, NIL), ((-9, 1), NIL),
        ):
            self.assertIsNone(gap_of(CROSS, place), place)
        self.assertIsNone(gap_of((POST,), (NIL, ONE)))
        self.assertIsNone(gap_of((FLOOR, SLOPE), (NIL, (5, 1))))
        self.assert_plain([gap_of((POST,), (MINUS, ONE)), gap_of((POST,), (ONE, ONE))], [(0, 0), (1, 0)])

    def test_just_beside_a_curve(self):
        small = Fraction(1, 10 ** 300)
        self.assert_plain(gap_of(CROSS, point(0, 1 - small)), (1, 2))
        self.assert_plain(gap_of(CROSS, point(0, 1 + small)), (1, 3))
        self.assert_plain(gap_of(CROSS, point(0, -small)), (1, 1))
        self.assert_plain(gap_of(CROSS, point(1 + small, small)), (2, 1))
        self.assert_plain(gap_of(CROSS, point(1 - small, small)), (1, 2))
        self.assert_plain(gap_of(CROSS, point(-1 - small, -small)), (0, 0))

    def test_grids(self):
        chance = random.Random(31)
        for _ in range(25):
            curves = some_curves(chance, chance.randint(1, 5))
            numbers = [fraction(number) for number in events(curves) if len(number) == 2]
            for x in (Fraction(k, 2) for k in range(-7, 8)):
                for y in (Fraction(k, 2) for k in range(-7, 8)):
                    place = point(x, y)
                    found = gap_of(curves, place)
                    is_off = x not in numbers and all(sign_at(curve, place) for curve in curves)
                    self.assertEqual(found is not None, is_off)
                    if found is not None:
                        column = len([number for number in events(curves) if order(number, place[0]) < 0])
                        gap = len([1 for height, _ in ten_arcs(curves, decimal(place[0])) if height < decimal(place[1])])
                        self.assert_plain(found, (column, gap))


class Many(Checks, unittest.TestCase):
    def test_many_rows_of_curves(self):
        chance = random.Random(32)
        for many in (1, 2, 2, 3, 3, 4, 4, 5, 6, 7, 8, 9):
            for _ in range(8):
                self.check(some_curves(chance, many))

    def test_the_order_of_the_row_alone_changes_indexes(self):
        chance = random.Random(33)
        for _ in range(20):
            curves = some_curves(chance, 5)
            turned = curves[::-1]
            self.assert_plain(events(turned), events(curves))
            for column in range(len(events(curves)) + 1):
                self.assert_plain(stack(turned, column), tuple((4 - k, part) for k, part in stack(curves, column)))
            for event in range(len(events(curves))):
                wanted = tuple(tuple(sorted(4 - k for k in lot)) for lot in wall(curves, event))
                self.assert_plain(wall(turned, event), wanted)


if __name__ == "__main__":
    unittest.main()
