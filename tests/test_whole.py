"""What the document promises over the whole program ([1] and [2]): all its parts tell the same."""

import random
import unittest
from fractions import Fraction
from math import atan2, cos, pi, sin

from planehall.certificates import certify_apart, certify_bounded, certify_empty, certify_same, certify_telling, certify_within
from planehall.chart import corners, edges, faces, locate
from planehall.checker import accepts
from planehall.columns import events, gap_of, stack
from planehall.compare import is_same, parting_point
from planehall.console import run
from planehall.figures import curves_of, is_figure, truth_at
from planehall.images import picture_bytes, picture_text, read_bytes, read_picture
from planehall.leads import back, led_place
from planehall.letters import letters
from planehall.lines import walk
from planehall.meaning import telling
from planehall.measures import area_between, is_roots, length_between, straight_part
from planehall.models import model_of
from planehall.nearest import gap, nearest_place
from planehall.pictures import dots, picture
from planehall.printer import scene_text, sketch_text
from planehall.reader import read_figure, read_scene, read_sketch
from planehall.rimform import rim_form, told_at
from planehall.rims import bodies, rims
from planehall.sketches import scene_figure
from tests.helpers import NIL, ONE, Told, decimal, fraction, pair, point
from tests.oracle import ALL, BOWL, DISC, NONE, SLIVER, SQUARE, TWO_DISCS, TWO_HALVES, disc, half, is_in, lead, moved, some_lead, some_right_figure

BOTH = {("empty", "not empty"), ("same", "unlike"), ("within", "not within"), ("apart", "not apart"), ("bounded", "not bounded")}


def floats(place):
    return tuple(float(decimal(number)) for number in place)


def told_by_rim(form, x, y):
    """Whether a point off the rim is in, by the first piece that is met from it, in floats."""
    if form in ("all", "none"):
        return form == "all"
    chance = random.Random(9)
    while True:
        turn = chance.uniform(0, 2 * pi)
        u, v = cos(turn), sin(turn)
        met = [found for piece in form for found in meets(piece, x, y, u, v)]
        if met:
            return min(met)[1]


def meets(piece, x, y, u, v):
    """For each place of a piece ahead of a point along a way how far it is, and whether what is ahead of it is in."""
    curve, is_inside = piece[:2]
    a, b, c = [float(fraction(part)) for part in curve[1:]]
    if curve[0] == "line":
        value, rise = a * x + b * y - c, a * u + b * v
        numbers = [-value / rise] if abs(rise) > 1e-9 else []
    else:
        lean, value = u * (x - a) + v * (y - b), (x - a) ** 2 + (y - b) ** 2 - c
        room = lean * lean - value
        numbers = [-lean - room ** 0.5, -lean + room ** 0.5] if room > 0 else []
    found = []
    for number in numbers:
        spot = (x + number * u, y + number * v)
        if number > 0 and is_between_ends(piece, spot):
            grows = a * u + b * v if curve[0] == "line" else u * (spot[0] - a) + v * (spot[1] - b)
            found.append((number, (grows > 0) == is_inside))
    return found


def is_between_ends(piece, spot):
    curve, is_inside, start, stop = piece
    a, b, _ = [float(fraction(part)) for part in curve[1:]]
    if curve[0] == "line":
        way = (-b, a) if is_inside else (b, -a)
        far = [None if end is None else sum(part * step for part, step in zip(floats(end), way)) for end in (start, stop)]
        here = spot[0] * way[0] + spot[1] * way[1]
        return (far[0] is None or far[0] < here) and (far[1] is None or here < far[1])
    if start == stop:
        return True
    turns = [atan2(y - b, x - a) for x, y in (floats(start), spot, floats(stop))]
    first, last = [(turns[k] - turns[0] if is_inside else turns[0] - turns[k]) % (2 * pi) for k in (1, 2)]
    return first < last


class OnePlane(Told, unittest.TestCase):
    def test_all_parts_tell_alike(self):
        chance = random.Random(181)
        for _ in range(60):
            figure = some_right_figure(chance, chance.randint(1, 4), 7)
            text = sketch_text(figure)
            curves, form, again = curves_of(figure), rim_form(figure), read_figure(text)
            for _ in range(8):
                x, y = chance.randint(-5, 4) + Fraction(chance.randint(1, 96), 97), chance.randint(-5, 4) + Fraction(chance.randint(1, 88), 89)
                place = point(x, y)
                wanted = is_in(figure, x, y)
                word = "in" if wanted else "out"
                # Free or on a needless curve: no curve of small numbers that is a rim passes there.
                self.assertEqual({telling(figure, place), told_at(figure, place), telling(again, place)}, {word})
                self.assertIs(told_by_rim(form, float(x), float(y)), wanted)
                self.assertEqual(walk(figure, place, (ONE, ONE))[1][self.index_at(figure, place)], word)
                self.assertEqual(gap(figure, place) == NIL, wanted) if form != "none" else None
                self.check_columns(figure, curves, place, wanted)
                size = Fraction(1, 10 ** 7)
                view = (point(x - size, y + size), pair(2 * size), 1, 1)
                self.assertEqual(dots(figure, view), ((2 if wanted else 0,),))
                self.assertEqual(letters(figure, point(x - 1, y - 1), point(x + 1, y + 1), 1), ("#" if wanted else ".",))

    def index_at(self, figure, place):
        """The index in the walk's tellings of where it begins."""
        breaks = [decimal(number) for number in walk(figure, place, (ONE, ONE))[0]]
        return 2 * len([number for number in breaks if number < 0])

    def check_columns(self, figure, curves, place, wanted):
        """The sides of the curves, told by the arcs below a point in its column, have the truth."""
        told = gap_of(curves, place)
        if told is None:
            return
        column, many = told
        row = stack(curves, column)
        below, above = row[:many], row[many:]
        sides = []
        for k, curve in enumerate(curves):
            if curve[0] == "circle":
                sides.append((k, -1) in below and (k, 1) in above)
            elif curve[2] == NIL:
                sides.append(fraction(place[0]) * fraction(curve[1]) < fraction(curve[3]))
            else:
                # Inside of a line is below it exactly if b is above 0.
                sides.append(((k, 0) in above) == (fraction(curve[2]) > 0))
        self.assertIs(truth_at(figure, tuple(sides)), wanted)

    def test_places_of_roots(self):
        chance = random.Random(182)
        for _ in range(40):
            figure = some_right_figure(chance, chance.randint(1, 4), 7)
            again = read_figure(sketch_text(figure))
            curves = curves_of(figure)
            for place in corners(curves)[:6] + faces(curves)[:6]:
                word = telling(figure, place)
                self.assertEqual(told_at(figure, place), word)
                self.assertEqual(telling(again, place), word)
                claim, paper = certify_telling(figure, place)
                self.assertEqual(claim[0], word)
                self.assertIs(accepts(claim, paper), True)
                opposite = {"in": "out", "out": "in", "rim": "rim"}[word]
                self.assertEqual(telling(("outside", figure), place), opposite)
                by = some_lead(chance)
                self.assertEqual(telling(("led", by, figure), led_place(by, place)), word)
                self.assertEqual(led_place(back(by), led_place(by, place)), place)

    def test_bodies_hang_together_and_faces_are_counted(self):
        chance = random.Random(183)
        for _ in range(30):
            figure = some_right_figure(chance, chance.randint(1, 4), 7)
            curves = curves_of(figure)
            for place, row, _, _ in bodies(figure):
                self.assertEqual(telling(figure, place), "in")
                self.assertLessEqual(set(row), set(range(len(rims(figure)))))
            whole = [edge for edge in edges(curves) if edge[1] is None and curves[edge[0]][0] == "circle"]
            self.assertEqual({locate(curves, place) for place in faces(curves)}, {("face", k) for k in range(len(faces(curves)))})
            self.assertGreaterEqual(len(corners(curves)) - len(edges(curves)) + len(whole) + len(faces(curves)), 1)
            self.assertLessEqual(len(events(curves)), len(corners(curves)) + 2 * len(curves))


class OneFigure(Told, unittest.TestCase):
    def test_forms_and_points(self):
        chance = random.Random(184)
        seen = {True: 0, False: 0}
        for _ in range(120):
            first = some_right_figure(chance, 2, 4)
            second = chance.choice((some_right_figure(chance, 2, 4), ("join", first, some_right_figure(chance, 1, 3)), ("outside", ("outside", first)), moved(1, 1, moved(-1, -1, first))))
            if not is_figure(("join", first, second)):
                continue
            are_one = rim_form(first) == rim_form(second)
            self.assertIs(is_same(first, second), are_one)
            place = parting_point(first, second)
            self.assertIs(place is None, are_one)
            seen[are_one] += 1
            if are_one:
                # One figure has one of all that is told of it.
                for told in (rims, bodies):
                    self.assert_plain(told(first), told(second))
                self.assert_plain(walk(first, (NIL, NIL), (ONE, ONE)), walk(second, (NIL, NIL), (ONE, ONE)))
                view = (point(-2, 2), pair(Fraction(1, 2)), 8, 8)
                self.assert_plain(picture(first, view, 2), picture(second, view, 2))
            else:
                self.assertEqual({telling(first, place), telling(second, place)}, {"in", "out"})
        self.assertGreater(min(seen.values()), 20)


class Papers(Told, unittest.TestCase):
    def test_of_two_claims_just_one(self):
        chance = random.Random(185)
        for _ in range(40):
            first, second = some_right_figure(chance, 2, 4), some_right_figure(chance, 2, 4)
            made = [certify_empty(first), certify_bounded(first), certify_same(first, second), certify_within(first, second), certify_apart(first, second)]
            for claim, paper in made:
                self.assertIs(accepts(claim, paper), True)
                for word, denial in BOTH:
                    if claim[0] in (word, denial):
                        other = denial if claim[0] == word else word
                        for _, told in made:
                            self.assertIs(accepts((other, *claim[1:]), told), False)


class Texts(Told, unittest.TestCase):
    def test_printed_and_read_again(self):
        chance = random.Random(186)
        for _ in range(80):
            figure = some_right_figure(chance, chance.randint(1, 5))
            self.assert_plain(read_sketch(sketch_text(figure)), figure)
            self.assert_plain(rim_form(read_figure(sketch_text(figure))), rim_form(figure))
            scene = ((("a", figure), ("b", ("outside", ("name", "a")))), ("join", ("name", "b"), ("name", "a")))
            self.assert_plain(read_scene(scene_text(scene)), scene)
            self.assertIn(rim_form(scene_figure(scene)), ("all",))
            model = model_of(scene[0])
            self.assert_plain(model.figure("a"), figure)
            lines = ("a = " + sketch_text(figure), "b = not a", "c = a | b", "d = all", "same c d", "whole a", "show b")
            self.assertEqual(run(lines)[4:], ("yes", sketch_text(figure), "not a"))

    def test_numbers_of_400_digits(self):
        big = 10 ** 400 - 1
        figure = ("join", ("disc", (-big, big - 1), (big - 1, big), (1, big)), ("half", (big, 1), (-1, big), (big, big - 1)))
        self.assertTrue(is_figure(figure))
        self.assert_plain(read_figure(sketch_text(figure)), figure)
        self.assertEqual(len(rim_form(figure)), len(rim_form(read_figure(sketch_text(figure)))))
        place = point(0, 0)
        self.assertEqual(telling(figure, place), told_at(figure, place))
        # What is told of it may be passed on, too.
        for corner in corners(curves_of(figure)):
            self.assertEqual(telling(figure, corner), "rim")
        near = nearest_place(figure, point(1, 1))
        self.assertNotEqual(telling(figure, near), "out")
        small = ("disc", (-big, big - 1), (big - 1, big), (1, big))
        for told in (area_between(small, 10 ** 6), length_between(small, 10 ** 6)):
            self.assertLessEqual(fraction(told[1]) - fraction(told[0]), Fraction(1, 10 ** 6))
        self.assertTrue(is_roots(straight_part(("common", small, ("half", ONE, NIL, (-big, big - 1))))))

    def test_pictures(self):
        for figure in (ALL, NONE, DISC, BOWL, SQUARE, TWO_DISCS, TWO_HALVES, SLIVER, ("less", disc(0, 0, 4), half(1, 1, 0)), ("led", lead(Fraction(3, 5), Fraction(4, 5), True, 0, 0), SQUARE)):
            seen = picture(figure, (point(-2, 2), pair(Fraction(1, 12)), 48, 48), 2)
            self.assert_plain(read_bytes(picture_bytes(seen)), seen)
            self.assert_plain(read_picture(picture_text(seen)), seen)


if __name__ == "__main__":
    unittest.main()
