"""Claims, papers, the checker and the certificates ([35])."""

import random
import unittest
from fractions import Fraction
from itertools import product

from planehall import errors
from planehall.certificates import (
    certify_apart, certify_bounded, certify_empty, certify_rows, certify_same, certify_telling, certify_within,
)
from planehall.chart import corners, faces
from planehall.checker import accepts
from planehall.columns import events
from planehall.compare import are_apart, is_bounded, is_empty, is_same, is_within
from planehall.curves import form_of
from planehall.figures import curves_of, row_of
from planehall.meaning import telling
from planehall.rows import rows_of, samples_of
from tests.helpers import (
    FLOOR, HALF, MINUS, NIL, ONE, POST, RING, ROOT_THREE, ROOT_TWO, STRAY, TWO, Told, circle, kind_of, line, pair, point, raised, spoilt,
)
from tests.oracle import (
    ALL, BOWL, DISC, LOW, NONE, SLIVER, SQUARE, TWO_DISCS, TWO_HALVES, arc_places, bends_at, box, disc, half, is_in, moved, polygon, side_row, some_curves,
    some_right_figure,
)

EAST, START = (ONE, NIL), (NIL, NIL)
STRIP = ("common", half(1, 0, 1), half(-1, 0, 1))
CROSS = ((NIL, HALF), (NIL, (-1, 2)), (NIL, TWO), (NIL, (-2, 1)))
BOTH = (("not empty", "empty"), ("unlike", "same"), ("not within", "within"), ("not apart", "apart"), ("not bounded", "bounded"))


def joined(parts):
    if len(parts) == 1:
        return parts[0]
    return ("join", joined(parts[:len(parts) // 2]), joined(parts[len(parts) // 2:]))


NINE = joined([disc(k, 0, 1) for k in range(9)])
TEN = joined([disc(k, 0, 1) for k in range(10)])
DEEP = DISC
for _ in range(11):
    DEEP = ("outside", DEEP)
TOO_DEEP = ("outside", DEEP)
TOO_GREAT = ("repeat", 6, START, ("repeat", 6, START, ("repeat", 6, START, DISC)))


class Checks(Told, unittest.TestCase):
    def assert_so(self, is_so, claim, paper):
        for told in (accepts(claim, paper), accepts(paper=paper, claim=claim)):
            self.assertIs(told, is_so, (claim, paper))


class Tellings(Checks):
    def test_in_and_out(self):
        for figure, place, word in (
            (DISC, START, "in"), (DISC, (TWO, NIL), "out"), (DISC, EAST, "rim"), (TWO_HALVES, START, "in"), (SLIVER, EAST, "out"), (BOWL, EAST, "rim"), (ALL, START, "in"),
            (NONE, START, "out"), (DISC, ((2, 0, -1, True), (2, 0, -1, True)), "rim"), (DISC, ((2, 0, -1, True), HALF), "in"),
        ):
            for told in ("in", "out"):
                self.assert_so(told == word, (told, figure, place), ())
                for paper in (None, (None,), [], "", True, (START,), {}, 0, ((), ())):
                    self.assert_so(False, (told, figure, place), paper)

    def test_rim_by_hand(self):
        deep, flat, wide = (RING, True, (-2, 1)), (RING, True, NIL), (RING, False, (-2, 1))
        self.assert_so(True, ("rim", DISC, EAST), (deep, flat))
        self.assert_so(True, ("rim", DISC, EAST), (wide, flat))
        self.assert_so(True, ("rim", DISC, EAST), (wide, (RING, False, (7, 3))))
        self.assert_so(True, ("rim", ("outside", DISC), EAST), (flat, deep))
        for paper in ((flat, deep), (deep, deep), (flat, flat), (deep,), (deep, flat, flat), [deep, flat], (list(deep), flat), (deep, list(flat)), (deep, None), deep, ()):
            self.assert_so(False, ("rim", DISC, EAST), paper)
        # The ring's threshold at each of its places is - 1; a little more and less are let.
        for number, is_inside in ((MINUS, None), ((-1000001, 1000000), True), ((-999999, 1000000), False)):
            self.assert_so(is_inside is True, ("rim", DISC, EAST), ((RING, True, number), flat))
            self.assert_so(is_inside is False, ("rim", DISC, EAST), (deep, (RING, False, number)))
        root = ((2, 0, -1, True), (2, 0, -1, True))
        self.assert_so(True, ("rim", DISC, root), (deep, flat))
        self.assert_so(False, ("rim", DISC, root), ((RING, True, MINUS), flat))

    def test_bends_at_several_curves(self):
        # Ring and x = 1: thresholds - 1 and 0 for the ring's normal (2, 0), - 1 / 2 and 0 for the post's own, (1, 0).
        post = line(1, 0, 1)
        figure = ("join", ("common", DISC, half(1, 0, 1)), half(-1, 0, -1))
        for curve, number, row in (
            (RING, (-3, 2), (True, True)), (RING, (-1, 2), (False, True)), (RING, HALF, (False, False)), (post, (-3, 4), (True, True)), (post, (-1, 4), (False, True)), (post, HALF, (False, False)),
        ):
            for is_left in (True, False):
                is_inside = row != (False, True)
                bend, other = (curve, is_left, number), (RING, True, (-1, 2)) if is_inside else (RING, True, (-3, 2))
                self.assert_so(True, ("rim", figure, EAST), (bend, other) if is_inside else (other, bend))
                self.assert_so(False, ("rim", figure, EAST), (other, bend) if is_inside else (bend, other))
        for bend in ((RING, True, MINUS), (RING, True, NIL), (post, True, (-1, 2)), (post, False, NIL)):
            self.assert_so(False, ("rim", figure, EAST), (bend, (RING, True, (-1, 2))))
            self.assert_so(False, ("rim", figure, EAST), ((RING, True, (-3, 2)), bend))

    def test_bends_of_other_curves_and_places(self):
        flat = (RING, True, NIL)
        for curve in (
            FLOOR, POST, circle(0, 0, 2), circle(2, 0, 1), line(0, 2, 0), ("circle", (True, 1), NIL, ONE), ("circle", NIL, NIL, (True, True)), ("circle", (False, 1), NIL, ONE), list(RING), "RING", None,
            ("circle", NIL, NIL, (1, 1), ONE), ("disc", NIL, NIL, ONE), ("line", NIL, NIL, ONE), 0, (RING,),
        ):
            self.assert_so(False, ("rim", DISC, EAST), ((curve, True, (-2, 1)), flat))
        for is_left in (1, 0, None, "True", (True,), MINUS):
            self.assert_so(False, ("rim", DISC, EAST), ((RING, is_left, (-2, 1)), flat))
        for number in (-2, (-4, 2), (-2, True), ROOT_TWO, (1, 0, -5, False), None, "-2", [-2, 1], (-2, -1), (2, -1), True, ()):
            self.assert_so(False, ("rim", DISC, EAST), ((RING, True, number), flat))
        self.assert_so(False, ("rim", DISC, START), ((RING, True, (-2, 1)), flat))
        self.assert_so(False, ("rim", BOWL, START), ((RING, True, (-2, 1)), (RING, True, NIL)))
        self.assert_so(False, ("rim", BOWL, START), ((FLOOR, True, MINUS), (RING, True, NIL)))
        self.assert_so(True, ("rim", BOWL, START), ((FLOOR, True, MINUS), (FLOOR, False, ONE)))
        # The ring's ways at (1 / 2, 0) would go down and up across the floor, but the place is not on it.
        self.assert_so(False, ("rim", BOWL, (HALF, NIL)), ((RING, False, NIL), (RING, True, NIL)))
        self.assert_so(False, ("rim", BOWL, (HALF, NIL)), ((RING, True, NIL), (RING, False, NIL)))
        # A line counts by its form alone, however the figure tells it.
        high = half(0, -2, 0)
        self.assert_so(True, ("rim", high, START), ((FLOOR, True, ONE), (FLOOR, True, MINUS)))
        self.assert_so(False, ("rim", high, START), ((line(0, -2, 0), True, ONE), (FLOOR, True, MINUS)))

    def test_certificates_of_tellings(self):
        chance = random.Random(121)
        seen = {"in": 0, "out": 0, "rim": 0}
        for _ in range(60):
            figure = some_right_figure(chance, chance.randint(1, 4), 7)
            curves = curves_of(figure)
            places = [EAST, START] + list(corners(curves)) + list(faces(curves))[:3] + arc_places(curves, chance.randint(0, len(events(curves))))
            for place in places:
                claim, paper = certify_telling(figure, place)
                word = telling(figure, place)
                self.assertEqual(claim, (word, figure, place))
                self.assertIs(claim[1], figure)
                self.assertIs(claim[2], place)
                self.assert_so(True, claim, paper)
                seen[word] += 1
                for other in {"in", "out", "rim"} - {word}:
                    for told in ((), paper, paper[::-1]):
                        self.assert_so(False, (other, figure, place), told)
                if word == "rim":
                    self.assert_so(False, claim, paper[::-1])
                    self.assert_so(True, ("rim", ("outside", figure), place), paper[::-1])
                    self.check_bends(figure, curves, place, paper)
        self.assertGreater(min(seen.values()), 50)

    def check_bends(self, figure, curves, place, paper):
        """The rows of the bends of a paper are rows near the place by many digits, too."""
        near = {side_row(curves, x, y): is_in(figure, x, y) for x, y in bends_at(curves, place)}
        self.assertEqual(set(near.values()), {True, False})
        for (curve, is_left, number), is_inside in zip(paper, (True, False)):
            self.assertIn(curve, curves)
            self.assertEqual([kind_of(is_left), kind_of(number)], [bool, tuple])


class Samples(Checks):
    def test_by_hand(self):
        again, points = ("same", BOWL, ("less", DISC, ("outside", LOW))), CROSS
        self.assert_so(True, again, points)
        self.assert_so(True, again, points + points + ((HALF, HALF),))
        self.assert_so(True, ("within", BOWL, DISC), points)
        self.assert_so(True, ("apart", BOWL, ("less", DISC, LOW)), points)
        self.assert_so(True, ("empty", ("less", BOWL, DISC)), points)
        for claim in (again, ("within", BOWL, DISC), ("apart", BOWL, ("less", DISC, LOW)), ("empty", ("less", BOWL, DISC))):
            for k in range(4):
                self.assert_so(False, claim, points[:k] + points[k + 1:])
                self.assert_so(False, claim, points[:k] + (EAST,) + points[k + 1:])
                self.assert_so(False, claim, points + (EAST,))
                self.assert_so(False, claim, points + (START,))
                self.assert_so(False, claim, points[:k] + (points[k - 1],) + points[k + 1:])
            for paper in (list(points), (), None, points[0], points + (None,), points + ((ROOT_TWO, NIL),), points + ((NIL,),), points + ([NIL, HALF],), "points", {0: points}):
                self.assert_so(False, claim, paper)
        for claim in (("same", BOWL, DISC), ("within", DISC, BOWL), ("apart", BOWL, DISC), ("empty", BOWL), ("empty", DISC), ("same", ALL, NONE)):
            self.assert_so(False, claim, points)

    def test_without_curves(self):
        for claim in (("empty", NONE), ("same", ALL, ("outside", NONE)), ("within", NONE, ALL), ("apart", ALL, NONE)):
            self.assert_so(True, claim, (START,))
            self.assert_so(True, claim, (EAST, START))
            self.assert_so(False, claim, ())
        for claim in (("empty", ALL), ("same", ALL, NONE), ("within", ALL, NONE), ("apart", ALL, ALL)):
            self.assert_so(False, claim, (START,))
        self.assert_so(True, ("not empty", ALL), START)
        self.assert_so(True, ("unlike", ALL, NONE), START)
        self.assert_so(True, ("not within", ALL, NONE), START)
        self.assert_so(True, ("not apart", ALL, ALL), START)
        self.assert_so(False, ("not empty", NONE), START)

    def test_lone_curves(self):
        # No corner, but three rows of two rings, one within the other.
        pipe = ("less", disc(0, 0, 4), DISC)
        claim = ("apart", pipe, DISC)
        points = (START, ((3, 2), NIL), ((3, 1), NIL))
        self.assert_so(True, claim, points)
        for k in range(3):
            self.assert_so(False, claim, points[:k] + points[k + 1:])

    def test_free_points(self):
        for claim, right, wrong in (
            (("not empty", BOWL), [(NIL, (-1, 2)), (HALF, (-1, 3))], [(NIL, HALF), (NIL, (-2, 1)), START, (NIL, MINUS)]),
            (("unlike", DISC, BOWL), [(NIL, HALF)], [(NIL, (-1, 2)), (NIL, TWO), START, EAST]),
            (("unlike", BOWL, DISC), [(NIL, HALF)], [(NIL, (-1, 2)), (NIL, TWO), START]),
            (("not within", DISC, LOW), [(NIL, HALF)], [(NIL, (-1, 2)), (NIL, TWO), (NIL, (-2, 1)), START]),
            (("not apart", DISC, LOW), [(NIL, (-1, 2))], [(NIL, HALF), (NIL, TWO), (NIL, (-2, 1)), START]),
        ):
            for place in right:
                self.assert_so(True, claim, place)
                self.assert_so(False, claim, (place,))
                self.assert_so(False, claim, list(place))
            for place in wrong + [((1, 0, -2, False), NIL), (NIL, (4, 0, -1, False)), None, (), (NIL,), (0, 0), (NIL, HALF, NIL), "in"]:
                self.assert_so(False, claim, place)

    def test_free_for_both(self):
        # What is on a curve of either figure is not free for both.
        claim = ("unlike", DISC, NONE)
        self.assert_so(True, claim, START)
        self.assert_so(False, ("unlike", DISC, ("common", NONE, LOW)), START)
        self.assert_so(False, ("not within", DISC, ("less", NONE, half(1, 0, 0))), START)
        self.assert_so(False, ("not apart", ("join", DISC, BOWL), DISC), START)


class Bounds(Checks):
    def test_bounded_by_hand(self):
        far = ((TWO, NIL), START)
        self.assert_so(True, ("bounded", DISC), (ONE, far))
        self.assert_so(False, ("bounded", DISC), (HALF, far))
        three = (START, ((3, 4), NIL), (TWO, NIL))
        self.assert_so(False, ("bounded", DISC), (HALF, three))
        self.assert_so(True, ("bounded", DISC), ((2, 1), (START, ((5, 4), NIL), (TWO, NIL))))
        self.assert_so(False, ("bounded", DISC), ((2, 1), (START, (TWO, NIL))))
        self.assert_so(False, ("bounded", DISC), ((2, 1), (START, ((5, 4), NIL))))
        for square in (NIL, MINUS, 1, True, (2, 2), ROOT_TWO, None, (1, True), "1", [1, 1]):
            self.assert_so(False, ("bounded", DISC), (square, far))
        for paper in ((ONE,), (ONE, far, ()), [ONE, far], far, (far, ONE), (ONE, list(far)), (ONE, ()), ONE, None, ()):
            self.assert_so(False, ("bounded", DISC), paper)
        self.assert_so(True, ("bounded", NONE), (ONE, far))
        self.assert_so(False, ("bounded", NONE), (ONE, (START,)))
        self.assert_so(False, ("bounded", ALL), (ONE, far))
        self.assert_so(False, ("bounded", LOW), (ONE, CROSS))
        self.assert_so(False, ("bounded", ("outside", DISC)), (ONE, far))
        # On the circle told for the figure no sample is free.
        self.assert_so(False, ("bounded", DISC), ((4, 1), (START, ((3, 2), NIL), ((3, 1), NIL), (TWO, NIL))))

    def test_ten_curves(self):
        points = tuple(place for place in samples_of(curves_of(NINE)))
        self.assert_so(False, ("bounded", NINE), ((100, 1), points))
        claim, paper = certify_bounded(NINE)
        self.assertEqual(claim, ("bounded", NINE))
        self.assert_so(True, claim, paper)
        self.assert_so(False, ("bounded", TEN), paper)
        self.assert_so(False, ("bounded", NINE), ((1, 4), paper[1]))
        for k in range(len(paper[1])):
            # A sample of each row is needed, unless another one has the same row.
            rest = paper[1][:k] + paper[1][k + 1:]
            self.assert_so(False, claim, (paper[0], rest))
        strips = ("common", NINE[2], half(1, 0, 50))
        self.assertEqual(certify_bounded(strips)[0][0], "bounded")

    def test_rays(self):
        low = (NIL, MINUS)
        for claim, right, wrong in (
            (LOW, [(low, EAST), (low, (MINUS, NIL)), (low, low), (low, (ONE, MINUS))], [(low, (NIL, ONE)), (low, (ONE, (1, 10 ** 9))), (START, low), ((NIL, ONE), EAST), (START, EAST)]),
            (("outside", DISC), [((TWO, NIL), EAST), ((TWO, NIL), (NIL, ONE)), ((TWO, TWO), (MINUS, NIL))], [((TWO, NIL), (MINUS, NIL)), (EAST, EAST), (START, EAST), ((TWO, ONE), (MINUS, NIL)), ((TWO, TWO), (MINUS, MINUS))]),
            (("less", ALL, disc(5, 0, 1)), [(START, (MINUS, NIL)), (START, (NIL, ONE)), (START, ((4, 1), ONE))], [(START, EAST), (START, ((10, 1), ONE)), (((5, 1), NIL), EAST), (((4, 1), NIL), (MINUS, NIL))]),
            (STRIP, [(START, (NIL, ONE)), (START, (NIL, MINUS))], [(START, EAST), (START, (ONE, (9, 1))), (EAST, (NIL, ONE)), (((2, 1), NIL), (NIL, ONE))]),
            (ALL, [(START, EAST), (EAST, ((-7, 3), HALF))], []),
            (NONE, [], [(START, EAST)]),
            (DISC, [], [(START, EAST), ((TWO, NIL), EAST)]),
        ):
            for ray in right:
                self.assert_so(True, ("not bounded", claim), ray)
                for paper in (ray[:1], ray + (NIL,), list(ray), ray[0], (ray,), (ray[0], START), (ray[0], list(ray[1])), (list(ray[0]), ray[1]), ((ROOT_TWO, NIL), ray[1]), (ray[0], (ROOT_TWO, NIL)), None, ()):
                    self.assert_so(False, ("not bounded", claim), paper)
            for ray in wrong:
                self.assert_so(False, ("not bounded", claim), ray)
        # Along x = 1 the ring is touched; a little farther out it is not.
        self.assert_so(False, ("not bounded", ("outside", DISC)), ((ONE, (-9, 1)), (NIL, ONE)))
        self.assert_so(True, ("not bounded", ("outside", DISC)), (((1000001, 1000000), (-9, 1)), (NIL, ONE)))
        # A needless curve is no free place either.
        self.assert_so(False, ("not bounded", ("join", LOW, ("common", LOW, DISC))), ((((-9, 1), (-1, 2))), EAST))
        self.assert_so(True, ("not bounded", ("join", LOW, ("common", LOW, DISC))), ((((-9, 1), (-3, 2))), EAST))


class Rows(Checks):
    def test_by_hand(self):
        four = ((False, False), (False, True), (True, False), (True, True))
        claim = ("rows", (RING, FLOOR), four)
        self.assert_so(True, claim, CROSS)
        for k in range(4):
            self.assert_so(False, claim, CROSS[:k] + CROSS[k + 1:])
            self.assert_so(False, ("rows", (RING, FLOOR), four[:k] + four[k + 1:]), CROSS)
            self.assert_so(False, ("rows", (RING, FLOOR), four[:k] + four[k + 1:]), CROSS[:k] + CROSS[k + 1:])
        for told in (
            four[::-1], four + four[:1], four[:1] + four, list(four), four[:3] + ([True, True],), ((0, 0), (0, 1), (1, 0), (1, 1)), four[:3] + ((True, 1),), four + ((True, None),), four[:3] + ((True, None),),
            tuple(row + (True,) for row in four), tuple(row[:1] for row in four), (), None, four[0], four[:3] + (None,), (four,), "rows",
        ):
            self.assert_so(False, ("rows", (RING, FLOOR), told), CROSS)
        for told in ((FLOOR, RING), [RING, FLOOR], (RING,), (RING, FLOOR, FLOOR), (RING, line(0, 2, 0)), (RING, ("line", NIL, TWO, NIL)), None, (RING, None), RING, ()):
            self.assert_so(told == (FLOOR, RING), ("rows", told, four), CROSS)
        self.assert_so(False, ("rows", (FLOOR, RING), four), CROSS + (START,))

    def test_rows_that_are_not_all(self):
        post = line(1, 0, 1)
        points = (START, ((2, 1), NIL), (NIL, TWO))
        three = ((False, False), (False, True), (True, True))
        self.assert_so(True, ("rows", (RING, post), three), points)
        self.assert_so(False, ("rows", (RING, post), three + ((True, False),)), points)
        self.assert_so(False, ("rows", (RING, post), ((False, False), (False, True), (True, False), (True, True))), points)
        self.assert_so(True, ("rows", (), ((),)), (START,))
        self.assert_so(False, ("rows", (), ((),)), ())
        self.assert_so(False, ("rows", (), ()), (START,))
        self.assert_so(False, ("rows", (), ()), ())
        self.assert_so(True, ("rows", (RING,), ((False,), (True,))), (START, (TWO, NIL)))

    def test_ten_curves_are_too_many(self):
        lines = tuple(line(0, 1, k) for k in range(10))
        for many in (9, 10):
            rows = tuple(sorted(tuple(k >= j for k in range(many)) for j in range(many + 1)))
            points = tuple(point(0, Fraction(2 * k - 1, 2)) for k in range(many + 1))
            self.assert_so(many == 9, ("rows", lines[:many], rows), points)

    def test_certificates(self):
        chance = random.Random(122)
        for many in (0, 1, 2, 3, 4, 5):
            for _ in range(6):
                curves = some_curves(chance, many)
                claim, paper = certify_rows(curves)
                self.assert_plain(claim, ("rows", curves, rows_of(curves)))
                self.assertIs(claim[1], curves)
                self.assert_so(True, claim, paper)
                for k in range(len(claim[2])):
                    self.assert_so(False, ("rows", curves, claim[2][:k] + claim[2][k + 1:]), paper)
                for row in product((False, True), repeat=many):
                    if row not in claim[2]:
                        self.assert_so(False, ("rows", curves, tuple(sorted(claim[2] + (row,)))), paper)


class Claims(Checks):
    """Whatever the arguments are, True or False is told."""

    RIGHT = (
        (("in", DISC, START), ()), (("out", DISC, (TWO, NIL)), ()), (("rim", DISC, EAST), ((RING, True, (-2, 1)), (RING, True, NIL))),
        (("empty", ("less", BOWL, DISC)), CROSS), (("not empty", BOWL), (NIL, (-1, 2))), (("same", BOWL, ("less", DISC, ("outside", LOW))), CROSS),
        (("unlike", DISC, BOWL), (NIL, HALF)), (("within", BOWL, DISC), CROSS), (("not within", DISC, BOWL), (NIL, HALF)),
        (("apart", BOWL, ("less", DISC, LOW)), CROSS), (("not apart", BOWL, DISC), (NIL, (-1, 2))), (("bounded", DISC), (ONE, (START, (TWO, NIL)))),
        (("not bounded", LOW), ((NIL, MINUS), EAST)), (("rows", (RING, FLOOR), ((False, False), (False, True), (True, False), (True, True))), CROSS),
    )

    def test_the_right_ones(self):
        for claim, paper in self.RIGHT:
            self.assert_so(True, claim, paper)

    def test_values_of_any_kind(self):
        for wrong in STRAY + (0, 1, DISC, START, CROSS, "in", ("in",), ("empty",), ("rows",), ("same",)):
            for claim, paper in self.RIGHT:
                self.assert_so(False, wrong, paper)
                if not (wrong == () and claim[0] in ("in", "out")) and wrong not in (START, CROSS):
                    self.assert_so(False, claim, wrong)
                for k in range(len(claim)):
                    if wrong not in (DISC, START, claim[k]):
                        self.assert_so(False, claim[:k] + (wrong,) + claim[k + 1:], paper)
            self.assert_so(False, wrong, wrong)

    def test_values_that_say_they_equal_all(self):
        class Alike:
            def __eq__(self, other):
                return True

            def __hash__(self):
                return 0
        alike = Alike()
        for claim, paper in self.RIGHT:
            self.assert_so(False, (alike, *claim[1:]), paper)
            for k in range(len(claim)):
                self.assert_so(False, claim[:k] + (alike,) + claim[k + 1:], paper)
            self.assert_so(False, claim, alike)
            for k in range(len(paper)):
                self.assert_so(False, claim, paper[:k] + (alike,) + paper[k + 1:])
        self.assert_so(False, alike, alike)

    def test_too_few_and_too_many_parts(self):
        for claim, paper in self.RIGHT:
            self.assert_so(False, claim[:-1], paper)
            self.assert_so(False, claim[1:], paper)
            self.assert_so(False, claim + claim[-1:], paper)
            self.assert_so(False, claim + (None,), paper)
            self.assert_so(False, claim + ((),), paper)
            self.assert_so(False, list(claim), paper)
            self.assert_so(False, (claim,), paper)

    def test_other_words(self):
        words = ["In", "IN", "in ", " in", "", "rims", "is empty", "nonempty", "not same", "not unlike", "not rows", "not in", "not out", "not rim", "unbounded", "not not empty", None, True, 0, b"in", ("in",), ["in"]]
        for claim, paper in self.RIGHT:
            for word in words:
                self.assert_so(False, (word, *claim[1:]), paper)
            for other, told in self.RIGHT:
                if other[0] != claim[0] and len(other) == len(claim):
                    self.assert_so(accepts((other[0], *claim[1:]), paper), (other[0], *claim[1:]), paper)

    def test_bent_papers(self):
        for claim, paper in self.RIGHT:
            if claim[0] not in ("in", "out"):
                for wrong in spoilt(paper):
                    told = accepts(claim, wrong)
                    self.assertIs(kind_of(told), bool)
                    # One more sample of those told changes nothing.
                    if told:
                        self.assertIn(wrong, (paper + paper[-1:], (paper[0], paper[1] + paper[1][-1:])))
            for wrong in spoilt(claim):
                self.assertIs(kind_of(accepts(wrong, paper)), bool)

    def test_figures_too_deep_too_great_with_too_many_curves(self):
        far = (pair(10 ** 6), pair(10 ** 6))
        self.assert_so(True, ("out", DEEP, START), ())
        self.assert_so(True, ("out", NINE, far), ())
        for wrong in (TOO_DEEP, TOO_GREAT, TEN):
            for word in ("in", "out"):
                for place in (START, far):
                    self.assert_so(False, (word, wrong, place), ())
            for claim, paper in self.RIGHT[3:13]:
                for k in range(1, len(claim)):
                    self.assert_so(False, claim[:k] + (wrong,) + claim[k + 1:], paper)
            for word in ("not empty", "empty", "bounded", "not bounded"):
                for paper in (far, (far,), (far, EAST), (ONE, (far,))):
                    self.assert_so(False, (word, wrong), paper)

    def test_ten_curves_together(self):
        eight, nine = joined([disc(k, 0, 1) for k in range(8)]), joined([disc(k, 0, 1) for k in range(9)])
        far = (pair(100), pair(100))
        for word in ("unlike", "not within", "not apart"):
            self.assert_so(word != "not apart", (word, ("outside", eight), disc(8, 0, 1)), far)
            self.assert_so(False, (word, ("outside", nine), disc(9, 0, 1)), far)
            self.assert_so(False, (word, disc(9, 0, 1), ("outside", nine)), far)
        self.assert_so(True, ("not apart", ("outside", eight), ("outside", disc(8, 0, 1))), far)
        self.assert_so(False, ("not apart", ("outside", nine), ("outside", disc(9, 0, 1))), far)
        samples = samples_of(curves_of(nine))
        self.assert_so(True, ("within", eight, nine), samples)
        self.assert_so(False, ("within", nine, ("join", eight, disc(9, 0, 1))), samples)


class Certificates(Checks):
    MAKERS = ((certify_same, is_same, "same", "unlike"), (certify_within, is_within, "within", "not within"), (certify_apart, are_apart, "apart", "not apart"))
    ALONE = ((certify_empty, is_empty, "empty", "not empty"), (certify_bounded, is_bounded, "bounded", "not bounded"))

    def check(self, making, asking, word, denial, figures, papers):
        claim, paper = making(*figures)
        wanted = word if asking(*figures) else denial
        self.assertEqual(claim, (wanted, *figures))
        for part, figure in zip(claim[1:], figures):
            self.assertIs(part, figure)
        self.assert_so(True, claim, paper)
        # The claim that it excludes has no paper, whoever wrote it.
        other = denial if wanted == word else word
        for told in papers + [paper]:
            self.assert_so(False, (other, *figures), told)
        return wanted == word, paper

    def test_many(self):
        chance = random.Random(123)
        seen = {}
        for _ in range(60):
            first, second = some_right_figure(chance, chance.randint(1, 3), 4), some_right_figure(chance, chance.randint(1, 3), 4)
            if chance.random() < 0.3:
                second = (chance.choice(("join", "common", "less")), first, second)
            points = list(faces(curves_of(("join", first, second))))
            papers = points + [tuple(points), samples_of(curves_of(first)), (START, EAST), ((100, 1), tuple(points))] + [(place, way) for place in points[:4] for way in (EAST, (NIL, ONE), (MINUS, NIL))]
            for making, asking, word, denial in self.MAKERS:
                is_so, _ = self.check(making, asking, word, denial, (first, second), papers)
                seen[word, is_so] = seen.get((word, is_so), 0) + 1
            for making, asking, word, denial in self.ALONE:
                is_so, _ = self.check(making, asking, word, denial, (first,), papers)
                seen[word, is_so] = seen.get((word, is_so), 0) + 1
        self.assertEqual(len(seen), 10)

    def test_by_hand(self):
        for figure in (ALL, NONE, SLIVER, TWO_HALVES, TWO_DISCS, STRIP, ("outside", STRIP), SQUARE, DEEP, NINE, ("outside", NINE), disc(10 ** 30, 0, 1), moved(0, -10 ** 30, SQUARE)):
            for making, asking, word, denial in self.ALONE:
                self.check(making, asking, word, denial, (figure,), [])
            for making, asking, word, denial in self.MAKERS:
                self.check(making, asking, word, denial, (figure, figure), [])
                if figure != DEEP:
                    self.check(making, asking, word, denial, (figure, ("outside", figure)), [])

    def test_papers_short_of_one_sample(self):
        chance = random.Random(124)
        for _ in range(25):
            figure = some_right_figure(chance, 3, 5)
            for claim, paper in (certify_same(figure, ("outside", ("outside", figure))), certify_empty(("less", figure, figure))):
                for k in range(len(paper)):
                    self.assert_so(False, claim, paper[:k] + paper[k + 1:])
                    self.assert_so(True, claim, paper[k:] + paper[:k] + paper[:k])

    def test_bounds_of_bounded_figures(self):
        corners_out = tuple(disc(x, y, q) for x in (-10, 10) for y in (-10, 10) for q in (1, 90))
        for figure in (DISC, SQUARE, BOWL, disc(3, 4, 25), box(-9, 7, -8, 8), polygon((10, 0), (0, 10), (-10, 0)), moved(50, -60, TWO_DISCS), *corners_out):
            _, (square, _) = certify_bounded(figure)
            far = Fraction(*square)
            wide = ("disc", NIL, NIL, pair(far))
            self.assertIs(is_within(figure, wide), True)

    def test_errors(self):
        for making, _, _, _ in self.MAKERS:
            self.assert_given(errors.InvalidFigure, TOO_DEEP, making, TOO_DEEP, DISC)
            self.assert_given(errors.InvalidFigure, TOO_DEEP, making, DISC, TOO_DEEP)
            for figures, many in (((TOO_GREAT, TEN), 216), ((DISC, TOO_GREAT), 216), ((TEN, DISC), 10), ((DISC, TEN), 10), ((NINE, disc(9, 0, 1)), 10), ((disc(0, 5, 1), NINE), 10)):
                error = raised(making, *figures)
                self.assertIs(kind_of(error), errors.TooMany)
                self.assert_plain(error.given, many)
            self.assertIsNone(raised(making, NINE, NINE))
        for making in (certify_empty, certify_bounded, lambda figure: certify_telling(figure, START)):
            self.assert_given(errors.InvalidFigure, TOO_DEEP, making, TOO_DEEP)
            for figure, many in ((TOO_GREAT, 216), (TEN, 10)):
                error = raised(making, figure)
                self.assertIs(kind_of(error), errors.TooMany)
                self.assert_plain(error.given, many)
        self.assert_given(errors.InvalidFigure, "x", certify_telling, "x", "y")
        for wrong in ((ROOT_TWO, ROOT_THREE), None, (0, 0), [NIL, NIL]):
            self.assert_given(errors.InvalidPlace, wrong, certify_telling, DISC, wrong)
        self.assert_index(None, certify_rows, [RING])
        self.assert_index(1, certify_rows, (RING, RING))
        self.assert_index(0, certify_rows, (line(0, 2, 4),))

    def test_forms_are_kept_as_passed(self):
        told = half(2, -4, 6)
        claim, _ = certify_telling(told, (NIL, NIL))
        self.assert_plain(claim, ("in", told, (NIL, NIL)))
        self.assertNotEqual(form_of(("line", *told[1:])), ("line", *told[1:]))
        claim, _ = certify_same(told, half(1, -2, 3))
        self.assert_plain(claim, ("same", told, half(1, -2, 3)))
        self.assertEqual(row_of(told, (NIL, NIL)), (True,))


if __name__ == "__main__":
    unittest.main()
