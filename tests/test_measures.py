"""Roots, areas, lengths, angles, moments and centres ([40] to [43])."""

import random
import unittest
from decimal import Decimal, localcontext
from fractions import Fraction
from itertools import combinations
from math import atan2, cos, isqrt, pi

from planehall import errors
from planehall.columns import events, stack
from planehall.compare import is_bounded
from planehall.figures import curves_of
from planehall.leads import led_place
from planehall.measures import (
    angle_between, area_between, centre, is_roots, is_straight, length_between, moments, roots_plus, straight_part,
)
from planehall.rimform import rim_form
from tests.helpers import DIGITS, HALF, MINUS, NIL, ONE, ROOT_TWO, STRAY, Told, decimal, fraction, kind_of, pair, point, raised
from tests.oracle import (
    ALL, BOWL, DISC, LOW, NONE, SLIVER, SQUARE, TWO_DISCS, TWO_HALVES, WEDGE, box, disc, half, is_in, lead, moved, polygon, some_lead, some_right_figure,
)

# The half of a whole round, to 60 digits.
PI = Fraction("3.14159265358979323846264338327950288419716939937510582097494")
LENS = ("common", DISC, disc(1, 0, 1))
MANY = (1, 2, 3, 10, 1000, 10 ** 6)
UNBOUNDED = (ALL, LOW, TWO_HALVES, ("outside", DISC), ("outside", SQUARE), ("join", DISC, LOW), ("common", half(1, 0, 1), half(-1, 0, 1)), ("outside", SLIVER))
EMPTY = (NONE, SLIVER, ("less", DISC, DISC), ("outside", ALL), ("common", SQUARE, box(1, 0, 2, 1)))


def worth(roots):
    """The sum that roots are, to many digits."""
    with localcontext() as context:
        context.prec = DIGITS
        total = Decimal(0)
        for top, bottom in roots:
            root = (Decimal(abs(top)) / Decimal(bottom)).sqrt()
            total += root if top > 0 else -root
        return total


def is_square(value):
    return value >= 0 and isqrt(value.numerator) ** 2 == value.numerator and isqrt(value.denominator) ** 2 == value.denominator


def are_roots(value):
    """What [40] says of roots, for tuples of fractions."""
    numbers = [fraction(part) for part in value]
    if 0 in numbers or numbers != sorted(set(numbers)):
        return False
    return not any(is_square(abs(first * second)) for first, second in combinations(numbers, 2))


class Measured(Told, unittest.TestCase):
    def assert_between(self, found, many, meant, slack=Fraction(0)):
        """A pair of fractions, near enough to one another, with what is meant between them."""
        self.assertIs(kind_of(found), tuple)
        low, high = [fraction(part) for part in found]
        self.assert_plain(found, (pair(low), pair(high)))
        self.assertLessEqual(low, meant + slack)
        self.assertGreaterEqual(high, meant - slack)
        self.assertLessEqual(high - low, Fraction(1, many))
        self.assertLessEqual(low, high)


class Roots(Measured):
    def test_is_roots_by_hand(self):
        for value in (
            (), (ONE,), (MINUS,), ((2, 1),), ((-3, 4),), ((1, 1), (2, 1)), ((-2, 1), (1, 1), (3, 1)), ((1, 6), (1, 3), (1, 2)), ((-5, 1), (-3, 1), (2, 1), (7, 1)), ((-1, 1), (2, 1)),
            ((10 ** 400 + 1, 1),), ((1, 2), (3, 1)), ((-3, 1), (1, 2)), ((2, 3), (3, 1)),
        ):
            self.assertIs(is_roots(value), True, value)
            self.assertIs(is_roots(value=value), True)
        for value in STRAY[:10] + STRAY[11:] + (
            (NIL,), (ONE, NIL), (ONE, ONE), ((2, 1), ONE), ((-1, 1), (4, 1)), ((-4, 1), (1, 1)), ((-1, 1), (1, 1)), ((1, 2), (2, 1)), ((1, 2), (8, 1)), ((-8, 1), (2, 1)), ((2, 1), (3, 1), (8, 1)),
            ((2, 4),), ((2, 1), 3), (2,), 2, (ROOT_TWO,), [ONE], ([1, 1],), ((True, 1),), ((1, True),), (ONE, None), ONE, (((2, 1),),), ((3, 1), (2, 1)), ((4, 9), (25, 1)), ((-12, 1), (3, 1)), ((-3, 4), (3, 1)),
            ((1, 0),), ((1, -2),), ((-2, 1), (-2, 1)), {ONE: 1},
        ):
            self.assertIs(is_roots(value), value == (), value)

    def test_is_roots_of_many(self):
        chance = random.Random(131)
        seen = {True: 0, False: 0}
        for _ in range(3000):
            numbers = [Fraction(chance.choice((-1, 1)) * chance.randint(1, 14), chance.randint(1, 6)) for _ in range(chance.randint(1, 4))]
            value = tuple(pair(number) for number in (sorted(numbers) if chance.random() < 0.9 else numbers))
            self.assertIs(is_roots(value), are_roots(value), value)
            seen[is_roots(value)] += 1
        self.assertGreater(min(seen.values()), 500)

    def test_sums_by_hand(self):
        for first, second, wanted in (
            ((), (), ()), ((ONE,), (), (ONE,)), ((ONE,), (ONE,), ((4, 1),)), ((ONE,), (MINUS,), ()), (((2, 1),), ((8, 1),), ((18, 1),)), (((2, 1),), ((-8, 1),), ((-2, 1),)), (((8, 1),), ((-2, 1),), ((2, 1),)),
            (((2, 1),), ((3, 1),), ((2, 1), (3, 1))), (((3, 1),), ((-2, 1),), ((-2, 1), (3, 1))), (((-3, 4),), ((3, 1),), ((3, 4),)), (((-3, 4),), ((3, 4),), ()), (((1, 2),), ((2, 1),), ((9, 2),)),
            (((-5, 1), (2, 1)), ((3, 1), (5, 1)), ((2, 1), (3, 1))), (((1, 4),), ((1, 9),), ((25, 36),)), (((-1, 4),), ((1, 9),), ((-1, 36),)), (((1, 3), (2, 1)), ((-2, 1), (3, 1)), ((16, 3),)),
        ):
            found = roots_plus(first, second)
            self.assertTrue(is_roots(found))
            # Of one kind any one of several fractions could be told, were it not for the sum's own square.
            self.assert_plain(found, wanted)
            self.assert_plain(roots_plus(second, first), wanted)
            self.assert_plain(roots_plus(other_roots=second, roots=first), wanted)

    def test_sums_of_many(self):
        chance = random.Random(132)
        for _ in range(1500):
            rows = []
            while len(rows) < 2:
                value = tuple(sorted({pair(Fraction(chance.choice((-1, 1)) * chance.randint(1, 50), chance.choice((1, 1, 2, 3, 9)))) for _ in range(chance.randint(0, 5))}, key=lambda part: fraction(part)))
                if is_roots(value):
                    rows.append(value)
            found = roots_plus(*rows)
            self.assertTrue(are_roots(found))
            self.assertLess(abs(Fraction(worth(found)) - Fraction(worth(rows[0])) - Fraction(worth(rows[1]))), Fraction(1, 10 ** 100))
            opposite = tuple((-top, bottom) for top, bottom in reversed(rows[1]))
            self.assert_plain(roots_plus(found, opposite), rows[0])
            self.assert_plain(roots_plus(rows[1], opposite), ())

    def test_great_numbers(self):
        big = 10 ** 399 + 7
        self.assert_plain(roots_plus(((big, 1),), ((4 * big, 1),)), ((9 * big, 1),))
        self.assert_plain(roots_plus(((big, 3),), ((-big, 3),)), ())
        self.assertEqual(len(roots_plus(((big, 1),), ((big + 1, 1),))), 2)

    def test_errors(self):
        for wrong in STRAY[:10] + STRAY[11:] + ((NIL,), ((2, 4),), ((-1, 1), (4, 1)), ((2, 1), (1, 1)), ROOT_TWO, ONE, [ONE], (ONE, ONE), ((1, 2), (2, 1))):
            if wrong != ():
                self.assert_given(errors.InvalidNumber, wrong, roots_plus, wrong, ())
                self.assert_given(errors.InvalidNumber, wrong, roots_plus, (ONE,), wrong)
                self.assert_given(errors.InvalidNumber, wrong, roots_plus, roots=(), other_roots=wrong)
        first, second = [NIL], [ONE]
        self.assert_given(errors.InvalidNumber, first, roots_plus, first, second)


class StraightParts(Measured):
    def test_by_hand(self):
        for figure, wanted in (
            (SQUARE, (ONE,)), (DISC, ()), (LENS, ((-3, 4),)), (WEDGE, ((1, 4),)), (BOWL, ()), (TWO_DISCS, ()), (("outside", ("outside", SQUARE)), (ONE,)), (box(0, 0, 3, 2), ((36, 1),)),
            (moved(5, -7, SQUARE), (ONE,)), (disc(3, 4, 2), ()), (polygon((0, 0), (3, 0), (0, 2)), ((9, 1),)), (NONE, ()), (SLIVER, ()),
            # The quarter of the ring in x and y above 0: the straight lines go through the middle.
            (("common", DISC, ("common", half(-1, 0, 0), half(0, -1, 0))), ()),
            # What is above y = 1 / 2: the chord from (root 3 / 4, 1 / 2) on has half of 1 / 2 times root 3 less than 0.
            (("common", DISC, half(0, -1, Fraction(-1, 2))), ((-3, 16),)),
            (("less", SQUARE, DISC), (ONE,)),
        ):
            self.assert_plain(straight_part(figure), wanted)

    def test_not_bounded(self):
        for figure in UNBOUNDED:
            for error in (raised(straight_part, figure), raised(area_between, figure, 10), raised(length_between, figure, 10), raised(moments, figure), raised(centre, figure)):
                self.assertIs(kind_of(error), errors.NotBounded)
            self.assert_given(errors.InvalidCount, 0, area_between, figure, 0)
            self.assert_given(errors.InvalidCount, None, length_between, figure, None)

    def test_many_figures(self):
        """With the round parts, half of q times the angle each, straight parts make the area that columns tell."""
        chance = random.Random(133)
        checked = 0
        while checked < 40:
            figure = some_right_figure(chance, chance.randint(1, 4), 6)
            if not is_bounded(figure):
                continue
            part = straight_part(figure)
            self.assertTrue(are_roots(part))
            low, high = area_between(figure, 10 ** 6)
            area = float(fraction(low) + fraction(high)) / 2
            self.assertLess(abs(area - area_by_columns(figure)), 2e-3 * (1 + area), figure)
            turns = sum((1 if piece[1] else -1) * float(fraction(piece[0][3])) / 2 * float_turn(piece) for piece in pieces(figure) if piece[0][0] == "circle")
            self.assertLess(abs(area - float(worth(part)) - turns), 1e-5)
            checked += 1


def pieces(figure):
    form = rim_form(figure)
    return form if kind_of(form) is tuple else ()


def floats(place):
    return tuple(float(decimal(number)) for number in place)


def float_turn(piece):
    curve, is_inside, start, stop = piece
    if start == stop:
        return 2 * pi
    first, last = [atan2(y - float(fraction(curve[2])), x - float(fraction(curve[1]))) for x, y in (floats(start), floats(stop))]
    return (last - first if is_inside else first - last) % (2 * pi)


def area_by_columns(figure):
    """The area by heights over many fractions of each column, in floats."""
    curves = curves_of(figure)
    marks = [float(decimal(number)) for number in events(curves)]
    total = 0.0
    for k, (left, right) in enumerate(zip(marks, marks[1:])):
        row, many = stack(curves, k + 1), 60
        if right - left < 1e-9 or len(row) < 2:
            continue
        middle = (left + right) / 2
        heights = sorted(heights_over(curves, row, middle))
        are_in = [is_in(figure, Fraction(middle), Fraction((low + high) / 2)) for low, high in zip(heights, heights[1:])]
        for step in range(many):
            # Nearer to the ends of a column there are more of them, as circles are steep there.
            turn = pi * (step + 0.5) / many
            share = (1 - cos(turn)) / 2
            over = heights_over(curves, row, left + share * (right - left))
            width = (right - left) * (cos(pi * step / many) - cos(pi * (step + 1) / many)) / 2
            total += width * sum(high - low for low, high, is_so in zip(over, over[1:], are_in) if is_so)
    return total


def heights_over(curves, row, x):
    found = []
    for index, part in row:
        kind, a, b, c = curves[index]
        a, b, c = [float(fraction(number)) for number in (a, b, c)]
        found.append((c - a * x) / b if kind == "line" else b + part * max(c - (x - a) ** 2, 0) ** 0.5)
    return found


class Areas(Measured):
    def test_by_hand(self):
        root_three = Fraction(worth(((3, 1),)))
        for figure, meant in (
            (DISC, PI), (SQUARE, Fraction(1)), (WEDGE, Fraction(1, 2)), (BOWL, PI / 2), (TWO_DISCS, 2 * PI), (LENS, 2 * PI / 3 - root_three / 2), (disc(1, 2, Fraction(1, 4)), PI / 4),
            (("less", disc(0, 0, 4), DISC), 3 * PI), (("less", SQUARE, DISC), 1 - PI / 4), (("less", box(-1, -1, 1, 1), DISC), 4 - PI), (("repeat", 3, point(3, 0), SQUARE), Fraction(3)),
            (("led", lead(3, 4, True, 7, -2), DISC), 25 * PI), (NONE, Fraction(0)), (SLIVER, Fraction(0)), (disc(0, 0, 3), 3 * PI), (("join", LENS, ("less", DISC, LENS)), PI),
            (("less", disc(0, 0, 4), ("join", disc(1, 0, 1), disc(-1, 0, 1))), 2 * PI), (("common", DISC, half(0, -1, Fraction(-1, 2))), PI / 3 - root_three / 4),
            (("common", DISC, half(0, -1, Fraction(1, 2))), 2 * PI / 3 + root_three / 4),
        ):
            for many in MANY:
                self.assert_between(area_between(figure, many), many, meant, Fraction(1, 10 ** 50))

    def test_great_and_small(self):
        big, small = 10 ** 200, Fraction(1, 10 ** 200)
        for many in (1, 10 ** 6):
            self.assert_between(area_between(box(-big, -big, big, big), many), many, Fraction(4 * big * big))
            self.assert_between(area_between(box(0, 0, small, small), many), many, small * small)
            low, high = area_between(disc(big, -big, big), many)
            self.assertEqual(str(fraction(low).__floor__())[:40], "3141592653589793238462643383279502884197")
            self.assertLessEqual(fraction(high) - fraction(low), Fraction(1, many))
            self.assert_between(area_between(disc(big, -big, small), many), many, small * PI)
            thin = ("common", DISC, half(-1, 0, small - 1))
            self.assert_between(area_between(thin, many), many, Fraction(0), Fraction(1, 10 ** 290))

    def test_sums(self):
        chance = random.Random(134)
        done = 0
        while done < 25:
            first, second = some_right_figure(chance, 2, 4), some_right_figure(chance, 2, 4)
            if not is_bounded(first) or not is_bounded(second):
                continue
            many = 10 ** 6
            middles = [sum(map(fraction, area_between(figure, many))) / 2 for figure in (first, second, ("join", first, second), ("common", first, second), ("less", first, second))]
            self.assertLess(abs(middles[0] + middles[1] - middles[2] - middles[3]), Fraction(4, many))
            self.assertLess(abs(middles[0] - middles[3] - middles[4]), Fraction(4, many))
            told = some_lead(chance)
            wide = fraction(told[0]) ** 2 + fraction(told[1]) ** 2
            led = sum(map(fraction, area_between(("led", told, first), many))) / 2
            self.assertLess(abs(led - wide * middles[0]), (1 + wide) / many)
            self.assert_plain(area_between(("outside", ("outside", first)), many), area_between(first, many))
            done += 1


class Lengths(Measured):
    def test_by_hand(self):
        root_two, root_three = Fraction(worth(((2, 1),))), Fraction(worth(((3, 1),)))
        for figure, meant in (
            (SQUARE, Fraction(4)), (DISC, 2 * PI), (WEDGE, 2 + root_two), (BOWL, PI + 2), (LENS, 4 * PI / 3), (TWO_DISCS, 4 * PI), (disc(3, 4, 2), 2 * root_two * PI), (NONE, Fraction(0)), (SLIVER, Fraction(0)),
            (("less", disc(0, 0, 4), DISC), 6 * PI), (("common", DISC, half(0, -1, Fraction(-1, 2))), 2 * PI / 3 + root_three), (("join", SQUARE, box(1, 0, 2, 1)), Fraction(6)), (("repeat", 2, point(1, 1), SQUARE), Fraction(8)),
            (("repeat", 2, point(Fraction(1, 2), 0), SQUARE), Fraction(5)), (polygon((0, 0), (3, 0), (3, 4)), Fraction(12)), (("led", lead(3, 4, False, 0, 0), SQUARE), Fraction(20)), (("less", SQUARE, DISC), 2 + PI / 2),
        ):
            for many in MANY:
                self.assert_between(length_between(figure, many), many, meant, Fraction(1, 10 ** 50))

    def test_ends_of_unlike_fields(self):
        # From the ring's (root 1 / 2, root 1 / 2) along y = x to the other circle, through roots of 3 and more.
        figure = ("less", ("common", ("common", disc(0, 0, 5), half(1, -1, 0)), half(-1, 0, 0)), disc(0, 0, 2))
        form = pieces(figure)
        self.assertTrue([piece for piece in form if piece[0][0] == "line"])
        total = 0.0
        for piece in form:
            if piece[0][0] == "line":
                (x, y), (u, v) = floats(piece[2]), floats(piece[3])
                total += ((x - u) ** 2 + (y - v) ** 2) ** 0.5
            else:
                total += float(fraction(piece[0][3])) ** 0.5 * float_turn(piece)
        low, high = length_between(figure, 10 ** 6)
        self.assertLess(abs(float(fraction(low)) - total), 1e-5)
        self.assertLess(abs(float(fraction(high)) - total), 1e-5)

    def test_many_figures(self):
        chance = random.Random(135)
        done = 0
        while done < 40:
            figure = some_right_figure(chance, chance.randint(1, 4), 6)
            if not is_bounded(figure):
                continue
            total = 0.0
            for piece in pieces(figure):
                if piece[0][0] == "line":
                    (x, y), (u, v) = floats(piece[2]), floats(piece[3])
                    total += ((x - u) ** 2 + (y - v) ** 2) ** 0.5
                else:
                    total += float(fraction(piece[0][3])) ** 0.5 * float_turn(piece)
            for many in (7, 10 ** 6):
                self.assert_between(length_between(figure, many), many, Fraction(total), Fraction(1, 10 ** 8))
            told = some_lead(chance)
            wide = (float(fraction(told[0])) ** 2 + float(fraction(told[1])) ** 2) ** 0.5
            low, _ = length_between(("led", told, figure), 10 ** 6)
            self.assertLess(abs(float(fraction(low)) - wide * total), 1e-4)
            done += 1


class Angles(Measured):
    def test_quarters(self):
        ways = [point(x, y) for x, y in ((1, 0), (0, 1), (-1, 0), (0, -1))]
        for first in range(4):
            for second in range(4):
                for many in MANY:
                    self.assert_between(angle_between(ways[first], ways[second], many), many, (second - first) % 4 * PI / 2, Fraction(1, 10 ** 50))

    def test_ways_along_one_another(self):
        for x, y in ((1, 0), (3, 0), (2, 1), (-7, 3), (0, -5), (-1, -1)):
            for share in (1, 2, Fraction(1, 10 ** 9), 10 ** 30):
                for many in MANY:
                    self.assert_between(angle_between(point(x, y), point(x * share, y * share), many), many, Fraction(0))
                    self.assert_between(angle_between(point(x, y), point(-x * share, -y * share), many), many, PI, Fraction(1, 10 ** 50))

    def test_eighths(self):
        for k, (x, y) in enumerate(((1, 0), (1, 1), (0, 1), (-1, 1), (-1, 0), (-1, -1), (0, -1), (1, -1))):
            self.assert_between(angle_between(point(5, 0), point(x, y), 10 ** 6), 10 ** 6, k * PI / 4, Fraction(1, 10 ** 50))

    def test_by_many_digits(self):
        # The angle of (1, 1 / 2) and of (1, 1 / 3) make an eighth; four of (1, 1 / 5) less that of (1, 1 / 239) make one, too.
        for ways, meant in ((((2, 1), (3, 1)), PI / 4), (((5, 1),) * 4, None)):
            total = sum(sum(map(fraction, angle_between(point(1, 0), point(x, y), 10 ** 6))) / 2 for x, y in ways)
            if meant is None:
                total -= sum(map(fraction, angle_between(point(1, 0), point(239, 1), 10 ** 6))) / 2
                meant = PI / 4
            self.assertLess(abs(total - meant), Fraction(5, 10 ** 6))

    def test_many(self):
        chance = random.Random(136)
        for _ in range(400):
            x, y, u, v = [chance.choice((chance.randint(-9, 9), Fraction(chance.randint(-99, 99), chance.randint(1, 99)), chance.randint(-10 ** 12, 10 ** 12))) for _ in range(4)]
            if (x, y) == (0, 0) or (u, v) == (0, 0):
                continue
            many = chance.choice(MANY)
            cross, along = x * v - y * u, x * u + y * v
            meant = atan2(cross, along) % (2 * pi)
            found = angle_between(point(x, y), point(u, v), many)
            if meant > 1e-9 and 2 * pi - meant > 1e-9:
                self.assert_between(found, many, Fraction(meant), Fraction(1, 10 ** 12))
            back = angle_between(point(u, v), point(x, y), many)
            both = sum(map(fraction, found + back)) / 2
            self.assertLessEqual(min(abs(both), abs(both - 2 * PI)), Fraction(2, many))

    def test_just_below_a_whole_round(self):
        for many in MANY:
            found = angle_between(point(1, 0), point(10 ** 40, -1), many)
            self.assert_between(found, many, 2 * PI - Fraction(1, 10 ** 40), Fraction(1, 10 ** 50))
            self.assert_between(angle_between(point(1, 0), point(10 ** 40, 1), many), many, Fraction(1, 10 ** 40), Fraction(1, 10 ** 50))

    def test_errors(self):
        for wrong in (point(0, 0), (ROOT_TWO, NIL), None, (1, 0), NIL):
            self.assert_given(errors.InvalidWay, wrong, angle_between, wrong, point(1, 0), 10)
            self.assert_given(errors.InvalidWay, wrong, angle_between, point(1, 0), wrong, 0)
        for many in (0, -1, 10 ** 6 + 1, True, None, ONE):
            self.assert_given(errors.InvalidCount, many, angle_between, point(1, 0), point(0, 1), many)
            self.assert_given(errors.InvalidCount, many, area_between, DISC, many)
            self.assert_given(errors.InvalidCount, many, length_between, DISC, many)
            self.assert_given(errors.InvalidFigure, None, length_between, None, many)


class Centres(Measured):
    def test_is_straight(self):
        for figure in (ALL, NONE, SLIVER, LOW, SQUARE, WEDGE, TWO_HALVES, ("join", LOW, ("common", LOW, DISC)), ("less", SQUARE, SLIVER), ("outside", SQUARE), ("join", SQUARE, ("common", SQUARE, DISC))):
            self.assertIs(is_straight(figure), True)
        for figure in (DISC, BOWL, LENS, ("outside", DISC), ("join", LOW, DISC), ("less", SQUARE, DISC), TWO_DISCS):
            self.assertIs(is_straight(figure), False)

    def test_moments_by_hand(self):
        self.assert_plain(moments(SQUARE), (ONE, (HALF, HALF), (((1, 3), (1, 4)), ((1, 4), (1, 3)))))
        self.assert_plain(moments(WEDGE), (HALF, ((1, 6), (1, 6)), (((1, 12), (1, 24)), ((1, 24), (1, 12)))))
        self.assert_plain(moments(box(-1, -2, 1, 2)), ((8, 1), (NIL, NIL), (((8, 3), NIL), (NIL, (32, 3)))))
        self.assert_plain(moments(NONE), (NIL, (NIL, NIL), ((NIL, NIL), (NIL, NIL))))
        self.assert_plain(moments(SLIVER), moments(NONE))
        self.assert_plain(centre(SQUARE), (HALF, HALF))
        self.assert_plain(centre(WEDGE), ((1, 3), (1, 3)))
        self.assert_plain(centre(("less", box(0, 0, 2, 2), SQUARE)), ((7, 6), (7, 6)))
        self.assert_plain(centre(("join", SQUARE, moved(4, 0, SQUARE))), ((5, 2), HALF))
        self.assert_plain(centre(("join", SQUARE, ("common", SQUARE, DISC))), (HALF, HALF))

    def test_boxes(self):
        """A box has the sums of each power apart: the product of those along both axes."""
        chance = random.Random(137)
        for _ in range(40):
            x, y = Fraction(chance.randint(-9, 9), chance.randint(1, 3)), Fraction(chance.randint(-9, 9), chance.randint(1, 3))
            u, v = x + Fraction(chance.randint(1, 9), 2), y + Fraction(chance.randint(1, 9), 4)
            one, two, three = [((u ** k - x ** k) / k, (v ** k - y ** k) / k) for k in (1, 2, 3)]
            wanted = (one[0] * one[1], (two[0] * one[1], one[0] * two[1]), ((three[0] * one[1], two[0] * two[1]), (two[0] * two[1], one[0] * three[1])))
            self.assert_plain(moments(box(x, y, u, v)), told_pairs(wanted))
            # Cut by its slant into both halves, and put together again, it has the same.
            slant = half(v - y, x - u, (v - y) * x + (x - u) * y)
            parts = [moments(("common", box(x, y, u, v), side)) for side in (slant, ("outside", slant))]
            self.assert_plain(told_pairs(added(*map(numbers_of, parts))), told_pairs(wanted))

    def test_leads(self):
        chance = random.Random(138)
        for _ in range(30):
            figure = chance.choice((SQUARE, WEDGE, polygon((0, 0), (3, -1), (4, 2), (1, 3)), ("less", box(0, 0, 3, 3), WEDGE), ("repeat", 3, point(1, 2), WEDGE)))
            told = some_lead(chance)
            wide = fraction(told[0]) ** 2 + fraction(told[1]) ** 2
            self.assert_plain(centre(("led", told, figure)), led_place(told, centre(figure)))
            self.assertEqual(fraction(moments(("led", told, figure))[0]), wide * fraction(moments(figure)[0]))
            self.assert_between(area_between(figure, 1000), 1000, fraction(moments(figure)[0]))
            self.assert_plain(straight_part(figure), (pair(fraction(moments(figure)[0]) ** 2),))

    def test_errors(self):
        for figure in UNBOUNDED:
            self.assertIs(kind_of(raised(moments, figure)), errors.NotBounded)
            self.assertIs(kind_of(raised(centre, figure)), errors.NotBounded)
        for figure in EMPTY:
            self.assertIsNone(raised(moments, figure))
            self.assertIs(kind_of(raised(centre, figure)), errors.NothingInside)
        for figure in (DISC, BOWL, TWO_DISCS, ("less", SQUARE, DISC)):
            self.assertIs(kind_of(raised(moments, figure)), errors.NotStraight)
            self.assertIs(kind_of(raised(centre, figure)), errors.NotStraight)
        for error in (errors.NotBounded, errors.NothingInside, errors.NotStraight):
            self.assertEqual(vars(error()), {})


def told_pairs(value):
    if isinstance(value, (int, Fraction)):
        return pair(value)
    return tuple(told_pairs(part) for part in value)


def numbers_of(value):
    if kind_of(value[0]) is int:
        return fraction(value)
    return tuple(numbers_of(part) for part in value)


def added(first, second):
    if isinstance(first, Fraction):
        return first + second
    return tuple(added(part, other) for part, other in zip(first, second))


if __name__ == "__main__":
    unittest.main()
