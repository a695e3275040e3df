"""Figures: which values are some, depth, size, bounds, CURVES, plains, truths and rows ([16] to [19])."""

import itertools
import random
import unittest
from fractions import Fraction

from planehall import errors
from planehall.chart import faces
from planehall.curves import form_of, sign_at
from planehall.figures import bounds_of, curves_of, depth_of, is_figure, plain_of, row_of, size_of, truth_at
from planehall.leads import led_curve, move
from planehall.rimform import rim_edges, rim_form, told_at
from tests.helpers import (
    FLOOR, HALF, MINUS, NIL, ONE, POST, RING, ROOT_TWO, THREE, TWO, Told, circle, fraction, kind_of, line, point, raised,
)
from tests.oracle import (
    ALL, BOWL, DISC, LOW, NONE, SQUARE, WEDGE, box, disc, half, is_in, lead, moved, polygon, side_row, some_figure,
)

ORIGIN, EAST = (NIL, NIL), (ONE, NIL)
CALLS = (depth_of, size_of, bounds_of, curves_of, plain_of, rim_edges, rim_form)


def row_of_joins(parts):
    """All parts joined, as deep as need be alone."""
    if len(parts) == 1:
        return parts[0]
    return ("join", row_of_joins(parts[:len(parts) // 2]), row_of_joins(parts[len(parts) // 2:]))


def some_row(chance, many):
    return tuple(chance.choice((True, False, None)) for _ in range(many))


class Forms(Told, unittest.TestCase):
    def test_what_is_a_figure(self):
        for figure in (
            ALL, NONE, LOW, DISC, SQUARE, WEDGE, BOWL, half(-3, 0, Fraction(1, 7)), half(0, Fraction(-1, 2), 0), disc(Fraction(1, 2), -3, Fraction(1, 9)),
            box(-1, -1, Fraction(-1, 2), 3), box(-9, 3, -8, 7), box(3, -9, 7, -8), ("join", ALL, NONE), ("less", DISC, DISC), ("outside", ALL), ("led", lead(0, 2, True, 1, 1), SQUARE),
            ("repeat", 1, ORIGIN, NONE), ("repeat", 6, (ONE, (-1, 2)), DISC), ("outside", ("led", move(EAST), ("repeat", 2, EAST, BOWL))),
        ):
            self.assertIs(is_figure(figure), True)
            self.assertIs(is_figure(value=figure), True)

    def test_halves_discs_and_boxes(self):
        for wrong in (
            half(0, 0, 1), half(0, 0, 0), disc(0, 0, 0), disc(1, 1, -1), box(0, 0, 0, 1), box(0, 0, 1, 0), box(1, 1, 0, 0), box(0, 1, 1, 1),
            box(5, 0, 3, 9), box(0, 5, 9, 3), box(3, -9, -3, -8), box(-9, 3, -8, -3), box(2, 0, 2, 9), box(0, 2, 9, 2),
            ("half", (2, 2), ONE, ONE), ("half", ROOT_TWO, ONE, ONE), ("disc", NIL, NIL, ROOT_TWO), ("box", NIL, ONE), ("box", ORIGIN, (ONE, (2, 2))),
            ("half", ONE, ONE), ("disc", ONE, ONE, ONE, ONE), ("box", ORIGIN), ("box", (*ORIGIN, NIL), (ONE, ONE)), ("box", [NIL, NIL], (ONE, ONE)),
            ("line", ONE, ONE, ONE), ("circle", ONE, ONE, ONE), ("half", 1, 1, 1), ("half", True, ONE, ONE), ("half", ONE, (True, 1), ONE),
        ):
            self.assertIs(is_figure(wrong), False, wrong)

    def test_polygons(self):
        for corners in (
            ((0, 0), (1, 0), (0, 1)), ((0, 0), (2, 0), (2, 2), (0, 2)), ((0, 0), (2, 0), (3, 1), (2, 2), (0, 2)),
            ((0, 0), (2, 0), (3, 1), (2, 2), (0, 2), (-1, 1)), ((5, 5), (6, 5), (Fraction(11, 2), 9)),
        ):
            for k in range(len(corners)):
                turned = corners[k:] + corners[:k]
                self.assertIs(is_figure(polygon(*turned)), True)
                self.assertIs(is_figure(polygon(*turned[::-1])), False)
        star = ((0, 3), (-2, -3), (3, 1), (-3, 1), (2, -3))
        for corners in (
            (), ((0, 0),), ((0, 0), (1, 0)), ((0, 0), (1, 0), (2, 0)), ((0, 0), (1, 0), (0, 0)), ((0, 0), (0, 0), (1, 0), (0, 1)),
            ((0, 0), (1, 0), (2, 0), (0, 1)), ((0, 0), (1, 0), (1, 1), (1, 2), (0, 1)), ((0, 0), (4, 0), (1, 1), (0, 4)), star, star[::-1],
            ((0, 0), (1, 0), (0, 1), (0, 0)), ((0, 0), (2, 0), (0, 2), (0, 0), (2, 0), (0, 2)), ((0, 0), (2, 2), (2, 0), (0, 2)),
            ((0, 0), (3, 0), (4, 1), (4, 3), (3, 4), (1, 4), (0, 3)),
        ):
            self.assertIs(is_figure(polygon(*corners)), False, corners)
        for wrong in (
            ("polygon",), ("polygon", None), ("polygon", list(WEDGE[1])), ("polygon", *WEDGE[1]), ("polygon", WEDGE[1][:2] + (None,)),
            ("polygon", WEDGE[1], ()), ("polygon", WEDGE[1][:2] + ([0, 1],)), ("polygon", {1: 2}), ("polygon", "abc"),
        ):
            self.assertIs(is_figure(wrong), False, wrong)

    def test_counts_steps_and_leads(self):
        for count in (1, 2, 3, 4, 5, 6):
            self.assertIs(is_figure(("repeat", count, EAST, DISC)), True)
        for count in (0, -1, 7, 10 ** 300, True, False, None, "2", ONE, (2,), [2]):
            self.assertIs(is_figure(("repeat", count, EAST, DISC)), False, count)
        for step in (NIL, None, [NIL, NIL], (NIL, (2, 2)), (ROOT_TWO, NIL), (NIL, NIL, NIL), 0, ()):
            self.assertIs(is_figure(("repeat", 2, step, DISC)), False, step)
        for told in (lead(0, 0, False, 0, 0), None, (), (ONE, NIL, 0, ORIGIN), (ONE, NIL, False, NIL), [ONE, NIL, False, ORIGIN], (ONE, NIL, False)):
            self.assertIs(is_figure(("led", told, DISC)), False, told)

    def test_wrong_parts_however_deep(self):
        for wrong in (None, (), "all", ("ALL",), ("all", ()), ["all"], ("disc", NIL, NIL, NIL), ("name", "a"), (("all",),), {"all": 1}, {"all"}, b"all", 7, (b"all",)):
            for make in (
                lambda part: part, lambda part: ("join", part, ALL), lambda part: ("join", ALL, part), lambda part: ("common", part, DISC),
                lambda part: ("less", DISC, part), lambda part: ("outside", part), lambda part: ("led", move(EAST), part),
                lambda part: ("repeat", 2, EAST, part), lambda part: ("outside", ("less", ("led", move(EAST), part), SQUARE)),
            ):
                figure = make(wrong)
                self.assertIs(is_figure(figure), False, figure)
                for call in CALLS:
                    self.assert_given(errors.InvalidFigure, figure, call, figure)

    def test_no_whole_and_no_bool_for_one_another(self):
        for wrong in (("join", ALL), ("join", ALL, ALL, ALL), ("outside",), ("outside", ALL, ALL), ("led", ALL), ("repeat", 2, ALL), ("all", None), ("none", ALL), ("less",)):
            self.assertIs(is_figure(wrong), False, wrong)


class DepthAndSize(Told, unittest.TestCase):
    def test_by_hand(self):
        for figure, deep, many in (
            (ALL, 1, 1), (NONE, 1, 1), (LOW, 1, 1), (DISC, 1, 1), (SQUARE, 1, 4), (WEDGE, 1, 3), (polygon((0, 0), (2, 0), (3, 1), (2, 2), (0, 2)), 1, 5),
            (BOWL, 2, 2), (("outside", SQUARE), 2, 4), (("led", move(EAST), WEDGE), 2, 3), (("repeat", 5, ORIGIN, SQUARE), 2, 20), (("less", BOWL, ("outside", BOWL)), 4, 4),
            (("join", ("outside", ("outside", DISC)), ALL), 4, 2), (("repeat", 2, ORIGIN, ("repeat", 3, ORIGIN, BOWL)), 4, 12), (("join", ALL, ("outside", NONE)), 3, 2),
            (("repeat", 6, EAST, ALL), 2, 6),
        ):
            self.assert_plain([depth_of(figure), size_of(figure)], [deep, many])

    def test_twelve_and_thirteen_deep(self):
        makers = (
            lambda part: ("outside", part), lambda part: ("led", move(EAST), part), lambda part: ("repeat", 1, EAST, part), lambda part: ("join", part, LOW),
            lambda part: ("common", LOW, part), lambda part: ("less", part, LOW),
        )
        for make in makers:
            for start in (ALL, DISC, SQUARE):
                figure = start
                for deep in range(1, 13):
                    self.assertIs(is_figure(figure), True)
                    self.assert_plain(depth_of(figure), deep)
                    figure = make(figure)
                self.assertIs(is_figure(figure), False)
                for call in CALLS:
                    self.assert_given(errors.InvalidFigure, figure, call, figure)

    def test_much_deeper(self):
        for deep in (14, 20, 28):
            figure, twice = DISC, ALL
            for _ in range(deep - 1):
                figure, twice = ("outside", figure), ("join", twice, twice)
            for wrong in (figure, twice, ("join", ALL, twice), ("less", twice, None)):
                self.assertIs(is_figure(wrong), False)
                self.assert_given(errors.InvalidFigure, wrong, size_of, wrong)

    def test_size_200_and_201(self):
        two_hundred = ("join", ("repeat", 6, ORIGIN, ("repeat", 6, ORIGIN, SQUARE)), ("repeat", 2, ORIGIN, ("repeat", 4, ORIGIN, ("join", WEDGE, SQUARE))))
        self.assert_plain(size_of(two_hundred), 200)
        self.assertEqual(len(bounds_of(two_hundred)), 200)
        for more, many in ((("join", two_hundred, ALL), 201), (("less", NONE, two_hundred), 201), (("join", two_hundred, SQUARE), 204), (("repeat", 2, ORIGIN, two_hundred), 400)):
            self.assertIs(is_figure(more), False)
            for call in CALLS:
                self.assert_much(many, call, more)
        self.assertIs(is_figure(two_hundred), True)
        self.assertIs(is_figure(("outside", two_hundred)), True)

    def assert_much(self, many, call, *args):
        error = raised(call, *args)
        self.assertIs(kind_of(error), errors.TooMany)
        self.assert_plain(error.given, many)

    def test_billions(self):
        figure, twice = SQUARE, DISC
        for _ in range(11):
            figure, twice = ("repeat", 6, EAST, figure), ("join", twice, twice)
        for call in CALLS:
            self.assert_much(4 * 6 ** 11, call, figure)
            self.assert_much(2 ** 11, call, twice)
        self.assertIs(is_figure(figure), False)
        self.assertIs(is_figure(twice), False)

    def test_nine_and_ten_curves(self):
        nine = [disc(k, 0, 1) for k in range(5)] + [half(1, 0, k) for k in range(4)]
        self.assertEqual(len(curves_of(row_of_joins(nine))), 9)
        again = row_of_joins(nine + nine + [half(-2, 0, -6), disc(3, 0, 1)])
        self.assertEqual(len(curves_of(again)), 9)
        self.assertIs(is_figure(again), True)
        for more in (disc(5, 0, 1), half(0, 1, 0), disc(0, 0, 2)):
            figure = row_of_joins(nine + [more])
            self.assertIs(is_figure(figure), False)
            for call in CALLS:
                self.assert_much(10, call, figure)
        self.assert_much(24, curves_of, ("repeat", 6, (TWO, THREE), SQUARE))
        # Of size 200: 10 upright and 30 level lines, and 100 slanting ones, as no two squares have one of these in common.
        slanting = ("led", lead(Fraction(3, 5), Fraction(4, 5), False, 0, 0), SQUARE)
        self.assert_much(140, size_of, ("repeat", 5, (THREE, ONE), ("repeat", 5, (NIL, (7, 1)), ("join", SQUARE, slanting))))

    def test_what_is_wrong_first(self):
        billions = DISC
        for _ in range(10):
            billions = ("repeat", 6, EAST, billions)
        wrong = ("join", billions, ("disc", NIL, NIL, NIL))
        self.assert_given(errors.InvalidFigure, wrong, curves_of, wrong)
        self.assert_much(6 ** 10 + 1, curves_of, ("join", billions, DISC))
        ten = row_of_joins([disc(k, 0, 1) for k in range(10)])
        # Of one that has too many curves and too great a size the size is told.
        self.assert_much(240, curves_of, ("repeat", 6, ORIGIN, ("repeat", 4, ORIGIN, ten)))
        self.assert_much(10, curves_of, ("repeat", 5, ORIGIN, ("repeat", 4, ORIGIN, ten)))
        self.assert_much(10, truth_at, ten, None)
        self.assert_much(10, row_of, ten, None)
        self.assert_much(10, told_at, ten, None)


class Bounds(Told, unittest.TestCase):
    def test_by_hand(self):
        for figure, wanted in (
            (ALL, ()), (NONE, ()), (half(-2, 0, 4), (line(-2, 0, 4),)), (DISC, (RING,)), (SQUARE, (line(-1, 0, 0), line(1, 0, 1), line(0, -1, 0), line(0, 1, 1))),
            (box(-1, 2, 3, 5), (line(-1, 0, 1), line(1, 0, 3), line(0, -1, -2), line(0, 1, 5))), (WEDGE, (line(0, -1, 0), line(1, 1, 1), line(-1, 0, 0))),
            (polygon((1, 1), (3, 1), (3, 2), (1, 3)), (line(0, -2, -2), line(1, 0, 3), line(1, 2, 7), line(-2, 0, -2))),
            (("less", LOW, DISC), (FLOOR, RING)), (("common", DISC, LOW), (RING, FLOOR)), (("outside", LOW), (FLOOR,)),
            (moved(1, 2, ("join", DISC, LOW)), (circle(1, 2, 1), line(0, 1, 2))), (("led", lead(2, 0, True, 0, 0), LOW), (line(0, -2, 0),)),
            (("repeat", 3, (ONE, TWO), ("join", DISC, LOW)), (RING, FLOOR, circle(1, 2, 1), line(0, 1, 2), circle(2, 4, 1), line(0, 1, 4))),
            (("repeat", 2, EAST, ("repeat", 2, (NIL, ONE), DISC)), (RING, circle(0, 1, 1), circle(1, 0, 1), circle(1, 1, 1))),
            (("led", lead(2, 0, False, 0, 0), ("repeat", 2, EAST, DISC)), (circle(0, 0, 4), circle(2, 0, 4))),
            (("repeat", 2, EAST, ("led", lead(2, 0, False, 0, 0), DISC)), (circle(0, 0, 4), circle(1, 0, 4))),
            (moved(1, 0, ("led", lead(0, 1, False, 0, 0), disc(1, 0, 1))), (circle(1, 1, 1),)), (("led", lead(0, 1, False, 0, 0), moved(1, 0, disc(1, 0, 1))), (circle(0, 2, 1),)),
        ):
            self.assert_plain(bounds_of(figure), wanted)

    def test_led_as_led_curve_does(self):
        chance = random.Random(81)
        for _ in range(40):
            figure = some_figure(chance, 3)
            if is_figure(figure):
                by = lead(chance.randint(1, 2), chance.randint(-1, 1), chance.random() < 0.5, 1, -1)
                self.assert_plain(bounds_of(("led", by, figure)), tuple(led_curve(by, curve) for curve in bounds_of(figure)))

    def test_insides_count(self):
        """A plain figure is in just inside of all its bounds."""
        chance = random.Random(82)
        for figure in (LOW, DISC, SQUARE, WEDGE, box(-1, -2, 1, Fraction(1, 2)), polygon((0, 0), (2, 0), (3, 1), (2, 2), (0, 2), (-1, 1)), half(-1, 2, Fraction(1, 3))):
            for _ in range(60):
                x, y = Fraction(chance.randint(-40, 40), 13), Fraction(chance.randint(-40, 40), 13)
                sides = [sign_at(curve, point(x, y)) for curve in bounds_of(figure)]
                if 0 not in sides:
                    self.assertEqual(sides == [-1] * len(sides), is_in(figure, x, y))

    def test_curves(self):
        for figure, wanted in (
            (ALL, ()), (("join", LOW, DISC), (RING, FLOOR)), (half(-2, 0, 4), (line(1, 0, -2),)), (SQUARE, (FLOOR, line(0, 1, 1), POST, line(1, 0, 1))),
            (("join", LOW, ("outside", ("less", LOW, half(0, -3, 0)))), (FLOOR,)), (("repeat", 5, ORIGIN, DISC), (RING,)),
            (("join", disc(1, 0, 1), ("join", disc(0, 2, 1), ("join", disc(0, 0, 3), disc(0, 0, Fraction(1, 3))))), (circle(0, 0, Fraction(1, 3)), circle(0, 0, 3), circle(0, 2, 1), circle(1, 0, 1))),
            (("join", half(-1, 0, 0), ("join", half(1, -1, 0), half(0, 1, -5))), (line(0, 1, -5), line(1, -1, 0), POST)),
            (("join", half(10, 1, 0), ("join", half(9, 1, 0), half(2, 1, 0))), (line(2, 1, 0), line(9, 1, 0), line(10, 1, 0))),
        ):
            self.assert_plain(curves_of(figure), wanted)

    def test_curves_of_many(self):
        chance = random.Random(83)
        for _ in range(100):
            figure = some_figure(chance, 4)
            if is_figure(figure):
                forms = {form_of(curve) for curve in bounds_of(figure)}
                wanted = sorted(forms, key=lambda curve: (curve[0], [fraction(part) for part in curve[1:]]))
                self.assert_plain(curves_of(figure), tuple(wanted))


class Plains(Told, unittest.TestCase):
    def test_by_hand(self):
        for figure, wanted in (
            (ALL, True), (NONE, False), (DISC, (0, True)), (LOW, (0, True)), (half(0, -1, 0), (0, False)), (half(-3, 0, 1), (0, False)), (half(2, -1, 0), (0, True)),
            (half(-2, 1, 0), (0, False)), (("outside", DISC), ("not", (0, True))), (("join", LOW, DISC), ("any", ((1, True), (0, True)))),
            (("common", half(0, -1, 0), DISC), ("each", ((1, False), (0, True)))), (("less", DISC, LOW), ("each", ((0, True), ("not", (1, True))))),
            (SQUARE, ("each", ((2, False), (3, True), (0, False), (1, True)))), (WEDGE, ("each", ((0, False), (2, True), (1, False)))),
            (("repeat", 2, EAST, DISC), ("any", ((0, True), (1, True)))), (("repeat", 2, (MINUS, NIL), DISC), ("any", ((1, True), (0, True)))),
            (("repeat", 1, EAST, DISC), ("any", ((0, True),))), (("repeat", 3, ORIGIN, LOW), ("any", ((0, True),) * 3)), (("repeat", 2, EAST, ALL), ("any", (True, True))),
            (("led", lead(1, 0, True, 0, 0), LOW), (0, False)), (("led", lead(-1, 0, False, 0, 0), LOW), (0, False)), (("led", move(EAST), ("join", DISC, LOW)), ("any", ((0, True), (1, True)))),
            (("join", ("outside", NONE), ("less", ALL, DISC)), ("any", (("not", False), ("each", (True, ("not", (0, True))))))),
            (("repeat", 2, EAST, ("common", DISC, ("outside", LOW))), ("any", (("each", ((0, True), ("not", (2, True)))), ("each", ((1, True), ("not", (2, True))))))),
            (("repeat", 2, EAST, ("led", lead(-1, 0, False, 0, 0), SQUARE)), ("any", (
                ("each", ((3, True), (2, False), (1, True), (0, False))), ("each", ((4, True), (3, False), (1, True), (0, False)))))),
        ):
            self.assert_plain(plain_of(figure), wanted)

    def test_bounds_in_order(self):
        """The leaves of a plain are those of the bounds: index of the form, and whether it is told by a multiple above 0."""
        chance = random.Random(84)
        for _ in range(150):
            figure = some_figure(chance, 4)
            if is_figure(figure):
                curves = curves_of(figure)
                wanted = []
                for curve in bounds_of(figure):
                    inner = [sign_at(curve, place) for place in faces((form_of(curve),))]
                    outer = [sign_at(form_of(curve), place) for place in faces((form_of(curve),))]
                    wanted.append((curves.index(form_of(curve)), inner == outer))
                self.assert_plain(list(self.leaves(plain_of(figure))), wanted)

    def leaves(self, plain):
        if isinstance(plain, bool):
            return
        if isinstance(plain[0], int):
            yield plain
        elif plain[0] == "not":
            yield from self.leaves(plain[1])
        else:
            for part in plain[1]:
                yield from self.leaves(part)


class Truths(Told, unittest.TestCase):
    def test_three_truths(self):
        """All of Kleene's tables, by two discs apart."""
        first, second = disc(0, 0, 1), disc(5, 0, 1)
        sides = (True, False, None)
        opposite = {True: False, False: True, None: None}
        for one, other in itertools.product(sides, sides):
            both = False if False in (one, other) else None if None in (one, other) else True
            some = True if True in (one, other) else None if None in (one, other) else False
            rest = False if one is False or other is True else None if None in (one, other) else True
            for word, wanted in (("common", both), ("join", some), ("less", rest)):
                self.assert_plain(truth_at((word, first, second), (one, other)), wanted)
            self.assert_plain(truth_at(("outside", first), (one,)), opposite[one])
            self.assert_plain(truth_at(("repeat", 2, ((5, 1), NIL), first), (one, other)), some)
            self.assert_plain(truth_at(half(-1, 0, 2), (one,)), opposite[one])
            self.assert_plain(truth_at(half(1, 0, 2), (one,)), one)
        self.assert_plain([truth_at(ALL, ()), truth_at(NONE, ())], [True, False])

    def test_boxes_and_polygons(self):
        # CURVES are y = 0, y = 1, x = 0, x = 1, the box is outside of the first and the third one.
        for row in itertools.product((True, False, None), repeat=4):
            parts = [None if side is None else side == wanted for side, wanted in zip(row, (False, True, False, True))]
            wanted = False if False in parts else None if None in parts else True
            self.assert_plain(truth_at(SQUARE, row), wanted)

    def test_free_places_are_in_as_their_rows_tell(self):
        chance = random.Random(85)
        for _ in range(200):
            figure = some_figure(chance, 4)
            if is_figure(figure):
                curves = curves_of(figure)
                for _ in range(10):
                    x, y = Fraction(chance.randint(-60, 60), 17), Fraction(chance.randint(-60, 60), 17)
                    row = row_of(figure, point(x, y))
                    if None not in row:
                        self.assert_plain(row, side_row(curves, x, y))
                        self.assert_plain(truth_at(figure, row), is_in(figure, x, y))

    def test_what_is_told_stays_with_fewer_noughts(self):
        chance = random.Random(86)
        seen = {True: 0, False: 0, None: 0}
        for _ in range(200):
            figure = some_figure(chance, 4)
            if is_figure(figure):
                row = some_row(chance, len(curves_of(figure)))
                told = truth_at(figure, row)
                seen[told] += 1
                full = tuple(chance.random() < 0.5 if side is None else side for side in row)
                self.assertIsNotNone(truth_at(figure, full))
                for _ in range(4):
                    more = tuple(side if chance.random() < 0.5 else old for side, old in zip(full, row))
                    if told is not None:
                        self.assert_plain(truth_at(figure, more), told)
        self.assertGreater(min(seen.values()), 10)

    def test_rows(self):
        for figure, place, wanted in (
            (ALL, ORIGIN, ()), (DISC, ORIGIN, (True,)), (DISC, EAST, (None,)), (DISC, (ONE, ONE), (False,)), (BOWL, (HALF, NIL), (True, None)), (BOWL, EAST, (None, None)),
            (BOWL, (ROOT_TWO, (1, 0, -2, False)), (False, True)), (half(0, -1, 0), (NIL, ONE), (False,)), (SQUARE, (HALF, HALF), (False, True, False, True)),
            (SQUARE, ORIGIN, (None, True, None, True)), (DISC, ((2, 0, -1, True), (2, 0, -1, False)), (None,)), (half(-1, 1, 0), (ROOT_TWO, ROOT_TWO), (None,)),
        ):
            self.assert_plain(row_of(figure, place), wanted)

    def test_wrong_rows(self):
        three = ("join", BOWL, disc(5, 0, 1))
        for wrong in (None, (), (True,), (True, True), (True,) * 4, [True, True, True], "abc", 3, True, {True: 1}, {0, 1, 2}, b"abc", (None, None), (1, 2)):
            self.assert_row(None, truth_at, three, wrong)
        for wrong in (0, 1, "", "True", (), (True,), [None], 2, -1, {}, NIL, b"", object()):
            for spot in range(3):
                row = (True, None, False)
                self.assert_row(spot, truth_at, three, row[:spot] + (wrong,) + row[spot + 1:])
            self.assert_row(0, truth_at, three, (wrong, wrong, True))
            self.assert_row(1, truth_at, figure=three, row=(None, wrong, wrong))
        for row in ((True, False, None), (None,) * 3, (False,) * 3):
            self.assertIsNone(raised(truth_at, three, row))
        self.assert_row(None, truth_at, ALL, (True,))
        self.assert_row(None, truth_at, ALL, [])
        self.assert_given(errors.InvalidFigure, None, truth_at, None, None)

    def assert_row(self, index, call, *args, **named):
        error = raised(call, *args, **named)
        self.assertIs(kind_of(error), errors.InvalidRow, (args, named))
        self.assert_plain(error.index, index)


if __name__ == "__main__":
    unittest.main()
