"""What figures tell along lines ([44])."""

import random
import unittest
from decimal import Decimal
from fractions import Fraction

from planehall.chart import corners
from planehall.curves import is_place, sign_at
from planehall.figures import curves_of
from planehall.lines import first_met, is_clear, place_at, walk
from planehall.meaning import telling
from planehall.rimform import rim_form
from planehall.roots import between, is_number, less, near, order, times
from tests.helpers import HALF, MINUS, NIL, ONE, ROOT_TWO, TWO, Told, decimal, fraction, is_near, kind_of, pair, point
from tests.oracle import (
    ALL, BOWL, DISC, LOW, NONE, SLIVER, SQUARE, TWO_DISCS, TWO_HALVES, WEDGE, box, disc, half, moved, some_right_figure,
)

EAST, NORTH, START = (ONE, NIL), (NIL, ONE), (NIL, NIL)
HOLLOW = ("less", DISC, disc(Fraction(1, 2), 0, Fraction(1, 4)))
ROOT_HALF = (2, 0, -1, True)
SLACK = Decimal(10) ** -20


def samples_between(numbers):
    """A fraction ahead of, between and behind some ascending numbers."""
    if not numbers:
        return [NIL]
    found = [(near(numbers[0], 1)[0] - 1, 1)] + [between(low, high) for low, high in zip(numbers, numbers[1:])]
    return found + [(near(numbers[-1], 1)[0] + 1, 1)]


def more_between(chance, low, high):
    """Fractions between two numbers, or beyond one if the other one is None."""
    if low is None and high is None:
        return [pair(Fraction(chance.randint(-999, 999), 7)) for _ in range(3)]
    if low is None or high is None:
        end = near(high if low is None else low, 10 ** 6)[0]
        sign = -1 if low is None else 1
        return [pair(Fraction(end + (sign > 0), 10 ** 6) + sign * Fraction(chance.randint(1, 10 ** k), 10 ** 6)) for k in (1, 4, 9)]
    first = between(low, high)
    return [first, between(low, first), between(first, high)]


class Walks(Told, unittest.TestCase):
    def check(self, figure, start, way, chance):
        """Breaks are just where the tellings are not all the same, and all between is told alike."""
        found = walk(figure, start, way)
        self.assertEqual([kind_of(part) for part in found], [tuple, tuple])
        breaks, tellings = found
        self.assertEqual(len(tellings), 2 * len(breaks) + 1)
        for number, other in zip(breaks, breaks[1:]):
            self.assertEqual(order(number, other), -1)
        for k, number in enumerate(breaks):
            self.assertTrue(is_number(number))
            self.assertEqual(tellings[2 * k + 1], telling(figure, place_at(start, way, number)))
            self.assertGreater(len(set(tellings[2 * k:2 * k + 3])), 1)
            # Near a place that tells "in" or "out" all tell the same: so at a break it is "rim".
            self.assertEqual(tellings[2 * k + 1], "rim")
        for k, number in enumerate(samples_between(breaks)):
            ends = ((None, *breaks)[k], (*breaks, None)[k])
            for told in [number] + more_between(chance, *ends):
                self.assertEqual(tellings[2 * k], telling(figure, place_at(start, way, told)), (figure, start, way, told))
        self.check_candidates(figure, start, way, breaks, tellings)
        self.check_first(figure, start, way, breaks, tellings)
        return found

    def check_candidates(self, figure, start, way, breaks, tellings):
        """Breaks are on curves of the rim form; corners and crossings of the figure's curves on the line are told by the walk, too."""
        form = rim_form(figure)
        on_rim = [] if form in ("all", "none") else [piece[0] for piece in form]
        for number in breaks:
            place = place_at(start, way, number)
            self.assertTrue([curve for curve in on_rim if sign_at(curve, place) == 0])
        line = ("line", way[1], pair(-fraction(way[0])), pair(fraction(way[1]) * fraction(start[0]) - fraction(way[0]) * fraction(start[1])))
        for corner in corners(curves_of(figure)):
            if sign_at(line, corner) == 0:
                spots = [k for k in range(2) if way[k] != NIL]
                number = self.number_at(start, way, corner, spots[0])
                self.assertEqual(self.told_by(breaks, tellings, number), telling(figure, corner))

    def number_at(self, start, way, place, axis):
        """The t of a place on the line."""
        return times(less(place[axis], start[axis]), pair(1 / fraction(way[axis])))

    def told_by(self, breaks, tellings, number):
        if number in breaks:
            return tellings[2 * breaks.index(number) + 1]
        return tellings[2 * len([other for other in breaks if order(other, number) < 0])]

    def check_first(self, figure, start, way, breaks, tellings):
        found = first_met(figure, start, way)
        if telling(figure, start) != "out":
            self.assert_plain(found, NIL)
            return
        behind = [number for number in breaks if order(number, NIL) > 0]
        left = [word for k, word in enumerate(tellings) if k // 2 >= len(breaks) - len(behind)]
        if set(left) == {"out"} or not left:
            self.assertIs(found, None)
            return
        self.assertEqual(order(found, NIL), 1)
        self.assertNotEqual(telling(figure, place_at(start, way, found)), "out")
        self.assertIn(found, behind)
        for number in behind:
            if order(number, found) < 0:
                self.assertEqual(telling(figure, place_at(start, way, number)), "out")
        self.assertEqual(tellings[2 * breaks.index(found)], "out")

    def test_by_hand(self):
        root = (4, 0, -3, True)
        for figure, start, way, wanted in (
            (DISC, (NIL, HALF), EAST, (((4, 0, -3, False), root), ("out", "rim", "in", "rim", "out"))),
            (DISC, (ONE, NIL), NORTH, ((NIL,), ("out", "rim", "out"))),
            (DISC, (TWO, NIL), NORTH, ((), ("out",))),
            (DISC, START, (TWO, NIL), (((-1, 2), HALF), ("out", "rim", "in", "rim", "out"))),
            (DISC, (ONE, NIL), (MINUS, NIL), ((NIL, TWO), ("out", "rim", "in", "rim", "out"))),
            (SQUARE, (MINUS, NIL), EAST, ((ONE, TWO), ("out", "rim", "rim", "rim", "out"))),
            (SQUARE, START, (ONE, ONE), ((NIL, ONE), ("out", "rim", "in", "rim", "out"))),
            (SQUARE, START, (ONE, MINUS), ((NIL,), ("out", "rim", "out"))),
            (LOW, START, EAST, ((), ("rim",))),
            (LOW, (NIL, ONE), EAST, ((), ("out",))),
            (LOW, (NIL, MINUS), EAST, ((), ("in",))),
            (LOW, START, NORTH, ((NIL,), ("in", "rim", "out"))),
            (ALL, START, EAST, ((), ("in",))),
            (NONE, START, EAST, ((), ("out",))),
            (TWO_HALVES, START, NORTH, ((), ("in",))),
            (TWO_HALVES, START, EAST, ((), ("in",))),
            (SLIVER, (ONE, NIL), NORTH, ((), ("out",))),
            (TWO_DISCS, START, EAST, ((MINUS, ONE, (3, 1)), ("out", "rim", "in", "rim", "in", "rim", "out"))),
            (TWO_DISCS, (ONE, NIL), NORTH, ((NIL,), ("out", "rim", "out"))),
            (("outside", TWO_DISCS), (ONE, NIL), NORTH, ((NIL,), ("in", "rim", "in"))),
            (HOLLOW, START, EAST, ((MINUS, NIL, ONE), ("out", "rim", "in", "rim", "out", "rim", "out"))),
            (("outside", DISC), (ONE, NIL), NORTH, ((NIL,), ("in", "rim", "in"))),
            # Along the chord both the rim and what is in at its ends.
            (BOWL, (TWO, NIL), (MINUS, NIL), ((ONE, (3, 1)), ("out", "rim", "rim", "rim", "out"))),
            (("join", LOW, DISC), START, EAST, ((MINUS, ONE), ("rim", "rim", "in", "rim", "rim"))),
            # A needless curve makes no break.
            (("join", DISC, ("common", DISC, LOW)), START, NORTH, ((MINUS, ONE), ("out", "rim", "in", "rim", "out"))),
            (("join", SQUARE, box(1, 0, 2, 1)), (NIL, HALF), EAST, ((NIL, TWO), ("out", "rim", "in", "rim", "out"))),
            (("join", SQUARE, box(1, 0, 2, 1)), START, EAST, ((NIL, TWO), ("out", "rim", "rim", "rim", "out"))),
            (("join", SQUARE, box(1, 0, 2, 1)), (ONE, NIL), NORTH, ((NIL, ONE), ("out", "rim", "in", "rim", "out"))),
            (("join", SQUARE, box(1, 1, 2, 2)), (ONE, NIL), NORTH, ((NIL, TWO), ("out", "rim", "rim", "rim", "out"))),
        ):
            self.assert_plain(walk(figure, start, way), wanted)
            self.assert_plain(walk(way=way, point=start, figure=figure), wanted)
            self.check(figure, start, way, random.Random(1))

    def test_along_curves_and_through_corners(self):
        chance = random.Random(141)
        for _ in range(60):
            figure = some_right_figure(chance, chance.randint(2, 4), 6)
            curves = curves_of(figure)
            for curve in curves:
                a, b, c = [fraction(part) for part in curve[1:]]
                if curve[0] == "line":
                    foot = point(a * c / (a * a + b * b), b * c / (a * a + b * b))
                    self.check(figure, foot, point(-b, a), chance)
                    self.check(figure, foot, point(a, b), chance)
                elif curve[3] in (ONE, (4, 1)):
                    radius = 1 if curve[3] == ONE else 2
                    self.check(figure, point(a + radius, b), NORTH, chance)
                    self.check(figure, point(a, b - radius), (MINUS, NIL), chance)
                    self.check(figure, point(a + Fraction(3 * radius, 5), b + Fraction(4 * radius, 5)), point(-4, 3), chance)
                    self.check(figure, point(a, b), point(chance.randint(1, 3), chance.randint(-3, 3)), chance)
            whole = [place for place in corners(curves) if len(place[0]) == 2 and len(place[1]) == 2][:4]
            for place in whole:
                self.check(figure, place, point(chance.randint(-2, 2), 1), chance)
                self.check(figure, place, EAST, chance)

    def test_many(self):
        chance = random.Random(142)
        for _ in range(120):
            figure = some_right_figure(chance, chance.randint(1, 4), 7)
            start = point(Fraction(chance.randint(-6, 6), chance.choice((1, 2, 3))), Fraction(chance.randint(-6, 6), chance.choice((1, 2, 5))))
            way = point(chance.randint(-3, 3), chance.choice((-2, -1, 1, Fraction(1, 3))))
            breaks, tellings = self.check(figure, start, way, chance)
            # The other way round, from another point, in other steps, it is the same walk.
            back = walk(figure, start, point(-fraction(way[0]), -fraction(way[1])))
            self.assertEqual(back[1], tellings[::-1])
            self.assertEqual([order(first, second) for first, second in zip(back[0], negatives(breaks))], [0] * len(breaks))
            twice = walk(figure, place_at(start, way, ONE), point(2 * fraction(way[0]), 2 * fraction(way[1])))
            self.assertEqual(twice[1], tellings)
            for first, second in zip(twice[0], breaks):
                self.assertTrue(is_near(1 + 2 * decimal(first), decimal(second), SLACK))

    def test_figures_that_are_one(self):
        chance = random.Random(143)
        for _ in range(40):
            first, second = some_right_figure(chance, 2, 4), some_right_figure(chance, 2, 4)
            start, way = point(chance.randint(-2, 2), chance.randint(-2, 2)), point(chance.randint(-2, 2), chance.choice((-1, 1)))
            for other in (
                ("join", first, ("common", first, second)), ("common", first, ("join", second, first)), ("outside", ("outside", first)), ("join", ("less", first, second), ("common", second, first)),
                moved(1, 2, moved(-1, -2, first)),
            ):
                self.assert_plain(walk(other, start, way), walk(first, start, way))
                self.assert_plain(first_met(other, start, way), first_met(first, start, way))


def negatives(numbers):
    return [times(number, MINUS) for number in reversed(numbers)]


class Places(Told, unittest.TestCase):
    def test_places(self):
        for start, way, number, wanted in (
            ((NIL, HALF), EAST, (4, 0, -3, True), ((4, 0, -3, True), HALF)), (START, (ONE, ONE), ROOT_TWO, (ROOT_TWO, ROOT_TWO)), (START, (ONE, TWO), HALF, (HALF, ONE)), ((ONE, ONE), (ONE, TWO), NIL, (ONE, ONE)),
            ((ONE, NIL), (MINUS, ONE), (1, -2, -1, True), ((1, 0, -2, False), (1, -2, -1, True))), (START, (TWO, NIL), ROOT_HALF, (ROOT_TWO, NIL)), (START, EAST, (-5, 3), ((-5, 3), NIL)),
        ):
            found = place_at(start, way, number)
            self.assert_plain(found, wanted)
            self.assertTrue(is_place(found))

    def test_many(self):
        chance = random.Random(144)
        for _ in range(200):
            start, way = point(chance.randint(-5, 5), Fraction(chance.randint(-5, 5), 3)), point(chance.randint(-5, 5), chance.choice((-2, 1, Fraction(1, 7))))
            number = chance.choice((ROOT_TWO, ROOT_HALF, (1, -2, -1, False), (3, 5, -7, True), (22, 7), NIL))
            found = place_at(start, way, number)
            self.assertTrue(is_place(found))
            for k in range(2):
                self.assertTrue(is_near(decimal(found[k]), decimal(start[k]) + decimal(number) * decimal(way[k]), SLACK))


class First(Told, unittest.TestCase):
    def test_by_hand(self):
        for figure, start, way, wanted in (
            (DISC, (NIL, TWO), (NIL, MINUS), ONE), (DISC, (NIL, TWO), EAST, None), (DISC, START, EAST, NIL), (DISC, EAST, EAST, NIL), (DISC, (TWO, NIL), EAST, None), (DISC, (ONE, TWO), (NIL, MINUS), TWO),
            (DISC, (ONE, TWO), NORTH, None), (DISC, ((-2, 1), HALF), EAST, (4, -16, 13, False)), (LOW, (NIL, ONE), EAST, None), (LOW, (NIL, ONE), (ONE, MINUS), ONE), (LOW, (NIL, ONE), (NIL, (-1, 10 ** 9)), (10 ** 9, 1)),
            (ALL, START, EAST, NIL), (NONE, START, EAST, None), (SLIVER, START, EAST, None), (("outside", DISC), START, EAST, ONE), (("outside", DISC), START, (ONE, ONE), ROOT_HALF), (HOLLOW, (HALF, NIL), EAST, HALF),
            (HOLLOW, (HALF, NIL), (MINUS, NIL), HALF), (TWO_DISCS, (ONE, TWO), (NIL, MINUS), TWO), (WEDGE, (ONE, ONE), (MINUS, MINUS), HALF), (SQUARE, (TWO, NIL), (MINUS, NIL), ONE), (SQUARE, (TWO, TWO), (MINUS, MINUS), ONE),
        ):
            self.assert_plain(first_met(figure, start, way), wanted)
            self.assert_plain(first_met(way=way, point=start, figure=figure), wanted)

    def test_is_clear(self):
        far = (pair(10 ** 50), pair(10 ** 50))
        for figure, first, second, is_so in (
            (DISC, (ONE, ONE), (MINUS, ONE), False), (DISC, (TWO, TWO), (ONE, (3, 1)), True), (DISC, (TWO, NIL), ((-2, 1), NIL), False), (DISC, (TWO, NIL), ((1000001, 1000000), NIL), True), (DISC, (TWO, NIL), (ONE, NIL), False),
            (DISC, (ONE, NIL), (TWO, NIL), False), (DISC, START, START, False), (DISC, EAST, EAST, False), (DISC, (TWO, NIL), (TWO, NIL), True), (DISC, ((-1, 1), (1000001, 1000000)), (ONE, (1000001, 1000000)), True),
            (ALL, START, EAST, False), (ALL, START, START, False), (NONE, START, EAST, True), (NONE, START, START, True), (SLIVER, (ONE, MINUS), (ONE, ONE), True), (("outside", DISC), START, (HALF, HALF), True),
            (("outside", DISC), START, EAST, False), (HOLLOW, (HALF, (1, 4)), (HALF, (-1, 4)), True), (LOW, (NIL, ONE), far, True), (LOW, (NIL, ONE), (far[0], NIL), False), (LOW, (NIL, ONE), (far[0], (1, 10 ** 50)), True),
            (TWO_DISCS, (ONE, HALF), (ONE, (1, 10 ** 50)), True), (TWO_DISCS, (ONE, HALF), (ONE, NIL), False), (TWO_DISCS, (ONE, HALF), (ONE, (-1, 2)), False),
        ):
            self.assertIs(is_clear(figure, first, second), is_so, (figure, first, second))
            self.assertIs(is_clear(figure, second, first), is_so)
            self.assertIs(is_clear(other_point=second, point=first, figure=figure), is_so)

    def test_many(self):
        chance = random.Random(145)
        seen = {True: 0, False: 0}
        for _ in range(150):
            figure = some_right_figure(chance, chance.randint(1, 3), 6)
            first, second = [point(Fraction(chance.randint(-8, 8), 2), Fraction(chance.randint(-8, 8), 2)) for _ in range(2)]
            found = is_clear(figure, first, second)
            self.assertIs(is_clear(figure, second, first), found)
            (x, y), (u, v) = [[fraction(part) for part in place] for place in (first, second)]
            words = {telling(figure, point(x + (u - x) * Fraction(k, 60), y + (v - y) * Fraction(k, 60))) for k in range(61)}
            if found:
                self.assertEqual(words, {"out"})
            elif words == {"out"}:
                # Between the samples it is met, then.
                way = point(u - x, v - y)
                self.assertLess(order(first_met(figure, first, way), ONE), 1)
            self.assertIs(is_clear(half(1, 0, -99), first, second), True)
            seen[found] += 1
        self.assertGreater(min(seen.values()), 30)


if __name__ == "__main__":
    unittest.main()
