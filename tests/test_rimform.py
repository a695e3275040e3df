"""What figures tell at places, their rims and rim forms ([14], [15], [20], [22], [24])."""

import random
import unittest
from decimal import Decimal, localcontext
from fractions import Fraction
from math import atan2, cos, pi, sin

from planehall.chart import corners, edges, faces
from planehall.curves import form_of, sign_at
from planehall.figures import curves_of
from planehall.leads import led_place
from planehall.rimform import rim_edges, rim_form, told_at
from tests.helpers import (
    DIGITS, FLOOR, HALF, MINUS, NIL, ONE, POST, RING, ROOT_THREE, ROOT_TWO, TWO, Told, circle, decimal, fraction, kind_of, line,
)
from tests.oracle import (
    ALL, BOWL, DISC, LOW, NONE, SLIVER, SQUARE, TWO_DISCS, TWO_HALVES, WEDGE, disc, half, is_in, is_in_at, lead, moved,
    parts_in_order, some_lead, some_right_figure, ten_place, telling_by_bends,
)

ROOT_HALF = (2, 0, -1, True)
ORIGIN = (NIL, NIL)
BY_HAND = (ALL, NONE, DISC, LOW, SQUARE, WEDGE, TWO_HALVES, BOWL, SLIVER, TWO_DISCS)


class Tellings(Told, unittest.TestCase):
    def test_by_hand(self):
        for figure, place, wanted in (
            (ALL, ORIGIN, "in"), (ALL, (ROOT_TWO, NIL), "in"), (NONE, ORIGIN, "out"), (NONE, (HALF, ROOT_THREE), "out"),
            (DISC, ORIGIN, "in"), (DISC, (ONE, NIL), "rim"), (DISC, (ROOT_HALF, ROOT_HALF), "rim"), (DISC, (ONE, ONE), "out"),
            (DISC, (HALF, (4, 0, -3, True)), "rim"), (DISC, (ROOT_TWO, NIL), "out"), (LOW, (ROOT_TWO, (1, 0, -2, False)), "in"),
            (LOW, (ROOT_TWO, NIL), "rim"), (LOW, (ROOT_TWO, ROOT_TWO), "out"), (TWO_HALVES, ORIGIN, "in"), (TWO_HALVES, (ROOT_TWO, NIL), "in"),
            (("common", LOW, ("outside", LOW)), ORIGIN, "out"), (SLIVER, (ONE, NIL), "out"), (SLIVER, ORIGIN, "out"), (SLIVER, (ONE, ONE), "out"),
            (BOWL, (ONE, NIL), "rim"), (BOWL, (HALF, NIL), "rim"), (BOWL, (TWO, NIL), "out"), (BOWL, (NIL, ONE), "out"), (BOWL, (NIL, MINUS), "rim"),
            (SQUARE, ORIGIN, "rim"), (SQUARE, (HALF, NIL), "rim"), (SQUARE, (HALF, HALF), "in"), (SQUARE, (TWO, NIL), "out"), (SQUARE, (ONE, TWO), "out"),
            (WEDGE, (HALF, HALF), "rim"), (WEDGE, (ONE, NIL), "rim"), (WEDGE, (TWO, MINUS), "out"), (WEDGE, ((1, 4), (1, 4)), "in"),
            (TWO_DISCS, (ONE, NIL), "rim"), (("outside", TWO_DISCS), (ONE, NIL), "rim"), (("join", DISC, ("outside", DISC)), (ONE, NIL), "in"),
            (("join", DISC, half(-1, 0, -1)), (ONE, NIL), "rim"), (("join", half(1, 0, 1), disc(1, 0, 1)), (ONE, NIL), "in"),
            (("join", half(1, 0, 1), disc(1, 0, 1)), (ONE, ONE), "rim"), (("less", DISC, half(0, 1, 0)), (ONE, NIL), "rim"),
            (("less", disc(0, 0, 4), DISC), (ROOT_HALF, ROOT_HALF), "rim"), (("join", disc(0, 0, 4), DISC), (ROOT_HALF, ROOT_HALF), "in"),
        ):
            self.assert_plain(told_at(figure, place), wanted)

    def test_by_bends(self):
        """By [20] and [22]: at all corners, on all edges, in all faces."""
        chance = random.Random(51)
        seen = {"in": 0, "out": 0, "rim": 0}
        figures = BY_HAND + tuple(some_right_figure(chance, deep, 5) for deep in (2, 3, 4) for _ in range(12))
        for figure in figures:
            curves = curves_of(figure)
            places = corners(curves)
            on_edges, in_gaps = parts_in_order(curves, places)
            for place in list(places) + on_edges[::3] + in_gaps[::4]:
                told = told_at(figure, place)
                self.assert_plain(told, telling_by_bends(figure, curves, place))
                seen[told] += 1
        self.assertGreater(min(seen.values()), 60)

    def test_several_curves_through_one_corner(self):
        circles = [disc(0, 1, 1), disc(0, -1, 1), disc(0, 2, 4), disc(1, 0, 1), disc(-2, 0, 4)]
        lines = [half(0, 1, 0), half(1, 0, 0), half(1, -1, 0), half(-1, -1, 0)]
        chance = random.Random(52)
        for _ in range(25):
            parts = [(chance.choice(("outside", "same")), part) for part in chance.sample(circles + lines, chance.randint(2, 9))]
            figure = None
            for word, part in parts:
                part = ("outside", part) if word == "outside" else part
                figure = part if figure is None else (chance.choice(("join", "common", "less")), figure, part)
            self.assert_plain(told_at(figure, ORIGIN), telling_by_bends(figure, curves_of(figure), ORIGIN))

    def test_outside_join_and_common(self):
        chance = random.Random(53)
        for _ in range(30):
            first, second = some_right_figure(chance, 2, 4), some_right_figure(chance, 2, 4)
            for place in corners(curves_of(("join", first, second)))[:6] + (ORIGIN, (HALF, HALF)):
                told = [told_at(first, place), told_at(second, place)]
                self.assert_plain(told_at(("outside", first), place), {"in": "out", "out": "in", "rim": "rim"}[told[0]])
                join, common = told_at(("join", first, second), place), told_at(("common", first, second), place)
                self.assertEqual(join == "out", told == ["out", "out"])
                self.assertEqual(common == "in", told == ["in", "in"])
                if "in" in told:
                    self.assertEqual(join, "in")
                if "out" in told:
                    self.assertEqual(common, "out")

    def test_led_figures_tell_at_led_places(self):
        chance = random.Random(54)
        for _ in range(40):
            figure, by = some_right_figure(chance, 2, 5), some_lead(chance)
            for place in corners(curves_of(figure))[:5] + (ORIGIN, (HALF, ONE)):
                self.assert_plain(told_at(("led", by, figure), led_place(by, place)), told_at(figure, place))

    def test_needless_curves_change_nothing(self):
        chance = random.Random(55)
        for _ in range(25):
            figure = some_right_figure(chance, 2, 5)
            more = ("join", figure, ("common", figure, some_right_figure(chance, 2, 3)))
            for place in corners(curves_of(more))[:8]:
                self.assert_plain(told_at(more, place), told_at(figure, place))


class RimEdges(Told, unittest.TestCase):
    def test_by_hand(self):
        for figure, wanted in (
            (ALL, ()), (NONE, ()), (TWO_HALVES, ()), (SLIVER, ()), (DISC, (0,)), (LOW, (0,)), (BOWL, (1, 2)), (TWO_DISCS, (0, 1)),
            (("outside", BOWL), (1, 2)), (("join", DISC, LOW), (0, 3, 4)), (("join", DISC, ("outside", DISC)), ()),
        ):
            self.assert_plain(rim_edges(figure), wanted)

    def test_edges_with_in_on_one_side(self):
        chance = random.Random(56)
        for _ in range(60):
            figure = some_right_figure(chance, 4, 6)
            curves = curves_of(figure)
            truths = [is_in_at(figure, place) for place in faces(curves)]
            wanted = tuple(k for k, edge in enumerate(edges(curves)) if truths[edge[3]] != truths[edge[4]])
            self.assert_plain(rim_edges(figure), wanted)
            self.assert_plain(rim_edges(("outside", figure)), wanted)


def piece(curve, is_inside, start=None, stop=None):
    return (curve, is_inside, start, stop)


class FormsByHand(Told, unittest.TestCase):
    def test_without_a_rim(self):
        for figure in (ALL, TWO_HALVES, ("outside", NONE), ("join", DISC, ("outside", DISC)), ("outside", SLIVER), ("repeat", 3, (ONE, NIL), ALL)):
            self.assert_plain(rim_form(figure), "all")
        for figure in (NONE, SLIVER, ("outside", ALL), ("less", DISC, DISC), ("common", DISC, disc(2, 0, 1)), ("less", LOW, LOW)):
            self.assert_plain(rim_form(figure), "none")

    def test_ways_of_lines(self):
        rise, fall = line(1, -1, 0), line(1, 1, 0)
        for told, form in (
            (half(0, 1, 0), piece(FLOOR, True)), (half(0, -1, 0), piece(FLOOR, False)), (half(0, -3, -6), piece(line(0, 1, 2), False)),
            (half(1, 0, 0), piece(POST, True)), (half(-1, 0, 0), piece(POST, False)), (half(2, -2, 0), piece(rise, True)),
            (half(-1, 1, 0), piece(rise, False)), (half(1, 1, 0), piece(fall, True)), (half(-1, -1, 0), piece(fall, False)),
        ):
            self.assert_plain(rim_form(told), (form,))
            self.assert_plain(rim_form(("outside", told)), (form[:1] + (not form[1],) + form[2:],))

    def test_square(self):
        far = (ONE, ONE)
        self.assert_plain(rim_form(SQUARE), (
            piece(FLOOR, False, ORIGIN, (ONE, NIL)), piece(line(0, 1, 1), True, far, (NIL, ONE)),
            piece(POST, False, (NIL, ONE), ORIGIN), piece(line(1, 0, 1), True, (ONE, NIL), far)))
        self.assert_plain(rim_form(("outside", SQUARE)), (
            piece(FLOOR, True, (ONE, NIL), ORIGIN), piece(line(0, 1, 1), False, (NIL, ONE), far),
            piece(POST, True, ORIGIN, (NIL, ONE)), piece(line(1, 0, 1), False, far, (ONE, NIL))))

    def test_wedge_and_quarters(self):
        self.assert_plain(rim_form(WEDGE), (
            piece(FLOOR, False, ORIGIN, (ONE, NIL)), piece(POST, False, (NIL, ONE), ORIGIN), piece(line(1, 1, 1), True, (ONE, NIL), (NIL, ONE))))
        self.assert_plain(rim_form(("common", half(0, -1, 0), half(-1, 0, 0))), (piece(FLOOR, False, ORIGIN, None), piece(POST, False, None, ORIGIN)))
        self.assert_plain(rim_form(("common", LOW, half(1, 0, 0))), (piece(FLOOR, True, ORIGIN, None), piece(POST, True, None, ORIGIN)))
        # Two quarters that meet in one corner: each line has in on one side up to it, on the other side behind it.
        both = ("join", ("common", LOW, half(1, 0, 0)), ("common", half(0, -1, 0), half(-1, 0, 0)))
        self.assert_plain(rim_form(both), (
            piece(FLOOR, False, ORIGIN, None), piece(FLOOR, True, ORIGIN, None), piece(POST, False, None, ORIGIN), piece(POST, True, None, ORIGIN)))

    def test_rows_of_edges_over_corners(self):
        # The post parts the floor and the ring, but ends on the rim nowhere.
        needless = ("join", DISC, ("common", DISC, half(1, 0, 0)))
        self.assert_plain(rim_form(needless), (piece(RING, True),))
        self.assert_plain(rim_form(("join", LOW, ("common", LOW, half(1, 0, 0)))), (piece(FLOOR, True),))
        self.assert_plain(rim_form(("join", BOWL, ("common", BOWL, half(1, 0, 0)))), rim_form(BOWL))
        # A line that touches the ring leaves it one piece without ends.
        self.assert_plain(rim_form(("join", DISC, ("common", DISC, half(1, 0, 1)))), (piece(RING, True),))
        self.assert_plain(rim_form(("less", disc(0, 0, 4), DISC)), (piece(RING, False), piece(circle(0, 0, 4), True)))

    def test_circles_with_one_end(self):
        touch = (ONE, NIL)
        self.assert_plain(rim_form(TWO_DISCS), (piece(RING, True, touch, touch), piece(circle(2, 0, 1), True, touch, touch)))
        self.assert_plain(rim_form(("outside", TWO_DISCS)), (piece(RING, False, touch, touch), piece(circle(2, 0, 1), False, touch, touch)))
        hollow = ("less", DISC, disc(Fraction(1, 2), 0, Fraction(1, 4)))
        self.assert_plain(rim_form(hollow), (piece(RING, True, touch, touch), piece(circle(Fraction(1, 2), 0, Fraction(1, 4)), False, touch, touch)))
        beside = ("join", DISC, half(-1, 0, -1))
        self.assert_plain(rim_form(beside), (piece(RING, True, touch, touch), piece(line(1, 0, 1), False, None, touch), piece(line(1, 0, 1), False, touch, None)))
        # More corners on the ring, at which no other edge of the rim ends, change nothing.
        self.assert_plain(rim_form(("join", TWO_DISCS, ("common", DISC, ("join", LOW, half(1, 0, 0))))), rim_form(TWO_DISCS))

    def test_pieces_of_one_curve_with_in_on_either_side(self):
        odd = ("join", ("less", DISC, LOW), ("less", LOW, DISC))
        west, east = (MINUS, NIL), (ONE, NIL)
        self.assert_plain(rim_form(odd), (
            piece(RING, False, east, west), piece(RING, True, east, west), piece(FLOOR, False, west, east),
            piece(FLOOR, True, None, east), piece(FLOOR, True, west, None)))


def along(told, spot):
    """How far along the way of a piece on a line, with the inside of the form on the left if told so, a spot is."""
    curve, is_inside = told[:2]
    a, b = float(decimal(curve[1])), float(decimal(curve[2]))
    far = (-b * spot[0] + a * spot[1]) / (a * a + b * b)
    return far if is_inside else -far


def turned_to(told, spot):
    """By how much one turns from FROM to a spot on a circle, the way of the piece, from 0 to a whole round."""
    curve, is_inside, start, _ = told
    turns = [atan2(y - float(decimal(curve[2])), x - float(decimal(curve[1]))) for x, y in (ten_floats(start), spot)]
    turn = (turns[1] - turns[0] if is_inside else turns[0] - turns[1]) % (2 * pi)
    return 0.0 if 2 * pi - turn < 1e-9 else turn


def ten_floats(place):
    return tuple(float(part) for part in ten_place(place))


def is_on_piece(told, spot):
    """Whether a spot on its curve is between the ends of a piece."""
    curve, _, start, stop = told
    if curve[0] == "line":
        far = along(told, spot)
        return (start is None or along(told, ten_floats(start)) < far) and (stop is None or far < along(told, ten_floats(stop)))
    if start is None or start == stop:
        return True
    return turned_to(told, spot) < turned_to(told, ten_floats(stop))


def some_spot(chance, curve):
    """The pair of a spot on a curve and the way from it to the outside."""
    a, b, c = [float(decimal(part)) for part in curve[1:]]
    if curve[0] == "circle":
        turn = chance.uniform(-pi, pi)
        return (a + c ** 0.5 * cos(turn), b + c ** 0.5 * sin(turn)), (cos(turn), sin(turn))
    length, far = (a * a + b * b) ** 0.5, chance.uniform(-5, 5)
    return (c * a / length ** 2 - far * b / length, c * b / length ** 2 + far * a / length), (a / length, b / length)


def some_mixture(chance, parts, deep):
    """A figure made of a few figures alone."""
    if deep == 1:
        return chance.choice(parts)
    word = chance.choice(("join", "common", "less", "outside"))
    inner = [some_mixture(chance, parts, deep - 1) for _ in range(1 if word == "outside" else 2)]
    return (word, *inner)


class Forms(Told, unittest.TestCase):
    """What the document says of all rim forms."""

    def check(self, figure, chance):
        form = rim_form(figure)
        if form in ("all", "none"):
            self.assert_plain(rim_edges(figure), ())
            self.assertEqual({is_in_at(figure, place) for place in faces(curves_of(figure))}, {form == "all"})
            return
        self.check_kinds(form)
        self.check_order(form)
        self.check_longest(form)
        curves = curves_of(figure)
        ends = [ten_floats(place) for place in corners(curves)]
        for curve in curves:
            own = [told for told in form if told[0] == curve]
            for _ in range(30):
                spot, way = some_spot(chance, curve)
                # Close to a corner a curve that touches this one would be nearer than the spots beside it.
                if not [end for end in ends if abs(end[0] - spot[0]) + abs(end[1] - spot[1]) < 0.02]:
                    self.check_spot(figure, own, spot, way)

    def check_kinds(self, form):
        self.assertIs(kind_of(form), tuple)
        self.assertTrue(form)
        for curve, is_inside, start, stop in form:
            self.assert_plain(form_of(curve), curve)
            self.assertIs(kind_of(is_inside), bool)
            for place in (start, stop):
                if place is not None:
                    self.assertEqual(sign_at(curve, place), 0)
            if curve[0] == "circle":
                self.assertEqual(start is None, stop is None)

    def check_spot(self, figure, own, spot, way):
        """In is on one side alone just where a piece is, on the side that it tells."""
        beside = [is_in(figure, *[Fraction(part + far * step) for part, step in zip(spot, way)]) for far in (-1e-7, 1e-7)]
        wanted = [] if beside[0] == beside[1] else [beside[0]]
        self.assertEqual([told[1] for told in own if is_on_piece(told, spot)], wanted, (figure, own, spot))

    def check_order(self, form):
        for first, second in zip(form, form[1:]):
            self.assertLess(self.rank(first), self.rank(second))

    def rank(self, told):
        curve, is_inside, start, _ = told
        with localcontext() as context:
            context.prec = DIGITS
            place = () if start is None else tuple(part.quantize(Decimal(10) ** -50) for part in ten_place(start))
        return (curve[0], [fraction(part) for part in curve[1:]], is_inside, place)

    def check_longest(self, form):
        """No two pieces could be one: at no end just two of one curve and side come together."""
        ends = {}
        for curve, is_inside, start, stop in form:
            for place in (start, stop):
                if place is not None:
                    ends.setdefault(place, []).append((curve, is_inside))
        for told in ends.values():
            self.assertEqual(len(told) % 2, 0)
            self.assertFalse(len(told) == 2 and told[0] == told[1])

    def test_of_many_figures(self):
        chance = random.Random(57)
        for figure in BY_HAND:
            self.check(figure, chance)
        for deep, times in ((1, 10), (2, 60), (3, 60), (4, 40), (5, 20)):
            for _ in range(times):
                self.check(some_right_figure(chance, deep), chance)

    def test_of_figures_with_nine_curves(self):
        chance = random.Random(58)
        for _ in range(6):
            parts = [disc(chance.randint(-3, 3), chance.randint(-3, 3), chance.randint(1, 9)) for _ in range(6)]
            parts += [half(chance.randint(1, 3), chance.randint(-2, 2), k) for k in range(3)]
            figure = parts[0]
            for part in parts[1:]:
                figure = (chance.choice(("join", "less", "common", "join")), figure, part)
            self.check(figure, chance)

    def test_opposites_go_the_other_way(self):
        chance = random.Random(59)
        for _ in range(40):
            figure = some_right_figure(chance, 3)
            form, other = rim_form(figure), rim_form(("outside", figure))
            if form in ("all", "none"):
                self.assertEqual({form, other}, {"all", "none"})
                continue
            turned = [(curve, not is_inside, stop, start) for curve, is_inside, start, stop in form]
            self.assertEqual(set(turned), set(other))
            self.assertEqual(len(turned), len(other))

    def test_needless_curves_and_other_texts(self):
        chance = random.Random(60)
        for _ in range(40):
            first, second = some_right_figure(chance, 2, 4), some_right_figure(chance, 2, 4)
            form = rim_form(first)
            for other in (
                ("join", first, ("common", first, second)), ("common", first, ("join", second, first)), ("outside", ("outside", first)),
                ("join", ("less", first, second), ("common", second, first)), ("less", first, ("less", second, first)), ("repeat", 1, (ONE, ONE), first),
                ("repeat", 4, ORIGIN, first), moved(1, 2, moved(-1, -2, first)), ("led", lead(0, 1, True, 1, 0), ("led", lead(0, 1, True, 0, -1), first)),
            ):
                self.assert_plain(rim_form(other), form)
            self.assert_plain(rim_form(("join", first, second)), rim_form(("outside", ("common", ("outside", second), ("outside", first)))))
            self.assert_plain(rim_form(("less", first, second)), rim_form(("common", ("outside", second), first)))

    def test_forms_are_the_same_exactly_for_one_figure(self):
        """Two figures are one exactly if they tell alike on all faces of the chart of both ([15])."""
        chance = random.Random(61)
        seen = {True: 0, False: 0}
        for _ in range(400):
            parts = [some_right_figure(chance, 1, 4) for _ in range(2)]
            first, second = [some_mixture(chance, parts, 3) for _ in range(2)]
            both = faces(curves_of(("join", first, second)))
            are_one = [is_in_at(first, place) for place in both] == [is_in_at(second, place) for place in both]
            self.assertEqual(rim_form(first) == rim_form(second), are_one, (first, second))
            seen[are_one] += 1
        self.assertGreater(min(seen.values()), 50)

    def test_lines_told_by_multiples_below_0(self):
        chance = random.Random(62)
        for _ in range(60):
            a, b, c = chance.randint(-3, 3), chance.randint(1, 3), Fraction(chance.randint(-4, 4), 3)
            if chance.random() < 0.3:
                a, b = b, 0
            for many in (3, Fraction(1, 7)):
                self.assert_plain(rim_form(half(a * many, b * many, c * many)), rim_form(half(a, b, c)))
                self.assert_plain(rim_form(half(-a * many, -b * many, -c * many)), rim_form(("outside", half(a, b, c))))

    def test_very_small_pieces(self):
        small = Fraction(1, 10 ** 60)
        thin = ("common", DISC, half(-1, 0, small - 1))
        self.assertEqual([told[1] for told in rim_form(thin)], [True, False])
        self.assert_plain(rim_form(("common", DISC, half(-1, 0, -1))), "none")
        self.assert_plain(rim_form(("common", DISC, half(-1, 0, -1 - small))), "none")
        self.assert_plain(rim_form(("join", DISC, half(1, 0, 1 + small)))[0][1:], (True, None, None))
        self.assertEqual(len(rim_form(("join", DISC, disc(2 - small, 0, 1)))), 2)
        self.assert_plain(rim_form(("join", DISC, disc(2 + small, 0, 1))), (piece(RING, True), piece(circle(2 + small, 0, 1), True)))


if __name__ == "__main__":
    unittest.main()
