"""Views, dots and pictures ([47] to [49])."""

import random
import unittest
from fractions import Fraction

from planehall import errors
from planehall.compare import are_apart, is_within
from planehall.figures import curves_of, is_figure
from planehall.images import picture_bytes, picture_text
from planehall.leads import behind, led_place, move
from planehall.meaning import telling
from planehall.measures import area_between
from planehall.pictures import covered, dot_square, dots, is_picture, picture, picture_letters
from tests.helpers import HALF, MINUS, NIL, ONE, STRAY, Told, fraction, kind_of, nested, pair, point, raised
from tests.oracle import (
    ALL, BOWL, DISC, LOW, NONE, SLIVER, SQUARE, TWO_DISCS, TWO_HALVES, WEDGE, box, disc, half, is_in, lead, moved, polygon, some_right_figure,
)

WIDE = ((MINUS, ONE), ONE, 2, 2)
NEAR = ((MINUS, ONE), HALF, 4, 4)
HALF_SIDE = Fraction(1, 2)
SHADES = " .:-=+*#X@"
NO_PICTURES = tuple(value for value in STRAY) + (
    (), ((),), ((), ()), ((1, 2), (3,)), ((1,), (2, 3)), ((256,),), ((-1,),), ((True,),), ((0, False),), ((None,),), (("1",),), ((1, (2,)),), ([1, 2],), [(1, 2)], ((1, 2), [3, 4]), ((ONE,),), (1, 2), 1,
    ((0,) * 49,), ((0,),) * 49, ((0,) * 48,) * 49, ((0,) * 49,) * 48, ((10 ** 400,),), ((1, 2), (3, 4), ()), ((1, 2), None), {(1, 2): 3}, "((1,),)", (((1,),),),
)
# Values that are no row of a picture: some have no length, some have the length of a row beside them, some another one.
NO_ROWS = tuple(value for value in STRAY if value != nested(30)) + (
    0, 1, 2, -1, 10 ** 25, -10 ** 400, "1", "12", b"12", [1], [1, 2], [[1], [2]], {1, 2}, frozenset((1, 2)), {1: 1}, {1: 1, 2: 2}, range(2), Fraction(3),
    (1, 256), (-1, 2), (1, True), (1, None), (1, "2"), (1, (2,)), (1, [2]), (0,) * 49, nested(29),
)
PICTURES = (((0,),), ((255,),), ((1, 2), (3, 4)), ((0, 255, 7),), ((9,), (8,), (7,)), ((0,) * 48,) * 48, ((255,) * 48,), ((128,),) * 48)


def view(x, y, size, wide, high):
    return (point(x, y), pair(size), wide, high)


def box_of(told, row, column, times=1):
    """The dot as a box of fractions of Python."""
    (x, y), size = [fraction(part) for part in told[0]], fraction(told[1])
    return box(x + size * column, y - size * (row + times), x + size * (column + times), y - size * row)


class Views(Told, unittest.TestCase):
    def test_dot_squares(self):
        told = view(Fraction(-1, 2), 3, Fraction(1, 4), 5, 3)
        for row in range(3):
            for column in range(5):
                _, low, high = box_of(told, row, column)
                self.assert_plain(dot_square(told, row, column), (low, high))
                self.assert_plain(dot_square(column=column, row=row, view=told), (low, high))
        for row in (-1, 3, 4, True, None, (0,), "0", 10 ** 400):
            self.assert_given(errors.InvalidIndex, row, dot_square, told, row, 0)
            self.assert_given(errors.InvalidIndex, row, dot_square, told, row, 99)
        for column in (-1, 5, 6, False, None, (0,), "0", -10 ** 400):
            self.assert_given(errors.InvalidIndex, column, dot_square, told, 0, column)
        self.assertIsNone(raised(dot_square, told, 2, 4))
        self.assert_given(errors.InvalidView, None, dot_square, None, -1, -1)
        wrong = view(0, 0, 1, 49, 1)
        for call in (lambda: dot_square(wrong, 0, 0), lambda: dots(DISC, wrong), lambda: covered(DISC, wrong), lambda: picture(DISC, wrong, 5)):
            self.assert_given(errors.InvalidView, wrong, call)
        for fine in (0, 5, -1, True, None, ONE, 10 ** 9):
            self.assert_given(errors.InvalidCount, fine, picture, DISC, WIDE, fine)
        self.assert_given(errors.InvalidFigure, "x", picture, "x", None, None)

    def test_is_picture(self):
        for value in PICTURES:
            self.assertIs(is_picture(value), True)
            self.assertIs(is_picture(value=value), True)
            self.assertEqual(len(picture_letters(value)), len(value))
        for wrong in NO_PICTURES:
            self.assertIs(is_picture(wrong), False, wrong)
            self.assert_given(errors.InvalidPicture, wrong, picture_letters, wrong)
            self.assert_given(errors.InvalidPicture, wrong, picture_letters, picture=wrong)

    def test_what_is_no_row_at_any_place(self):
        """Ahead of, between and behind rows, and beside others that are no rows, of any kind."""
        for wrong in NO_ROWS:
            for value in (
                (wrong,), (wrong, (1,)), (wrong, (1, 2)), (wrong, (1, 2), (3, 4)), ((1, 2), wrong), ((1,), wrong), ((1, 2), wrong, (3, 4)), ((1, 2), (3, 4), wrong),
                (wrong, wrong), (wrong, wrong, (1, 2)), (wrong, (0,) * 48), (wrong,) + ((7,),) * 47,
            ):
                self.assert_no_picture(value)
        for wrong in NO_ROWS:
            for other in NO_ROWS:
                self.assert_no_picture((wrong, other))
                self.assert_no_picture((wrong, other, (1, 2)))

    def assert_no_picture(self, value):
        self.assertIs(is_picture(value), False, value)
        for call in (picture_letters, picture_text, picture_bytes):
            self.assert_given(errors.InvalidPicture, value, call, value)

    def test_letters_of_all_greys(self):
        for grey in range(256):
            self.assert_plain(picture_letters(((grey, 0), (255, grey))), (SHADES[9 - 10 * grey // 256] + "@", " " + SHADES[9 - 10 * grey // 256]))
        # Each 25.6 the next letter comes.
        for letter, first, last in zip("@X#*+=-:. ", (0, 26, 52, 77, 103, 128, 154, 180, 205, 231), (25, 51, 76, 102, 127, 153, 179, 204, 230, 255)):
            self.assertEqual(picture_letters(((first, last),)), (letter * 2,))


class Dots(Told, unittest.TestCase):
    def check(self, figure, told):
        """A dot is full exactly if its inside is within the figure, empty exactly if it is apart from it."""
        found = dots(figure, told)
        self.assertEqual((kind_of(found), len(found)), (tuple, told[3]))
        counts = {0: 0, 1: 0, 2: 0}
        for row in range(told[3]):
            self.assertEqual((kind_of(found[row]), len(found[row])), (tuple, told[2]))
            for column in range(told[2]):
                inside = box_of(told, row, column)
                self.assertTrue(is_figure(("join", figure, inside)))
                wanted = 2 if is_within(inside, figure) else 0 if are_apart(inside, figure) else 1
                self.assert_plain(found[row][column], wanted)
                counts[wanted] += 1
        square = fraction(told[1]) ** 2
        self.assert_plain(covered(figure, told), (pair(square * counts[2]), pair(square * (counts[2] + counts[1]))))
        return found

    def test_by_hand(self):
        for figure, told, wanted in (
            (DISC, NEAR, ((1, 1, 1, 1), (1, 2, 2, 1), (1, 2, 2, 1), (1, 1, 1, 1))), (DISC, WIDE, ((1, 1), (1, 1))), (SQUARE, view(-1, 1, 1, 2, 1), ((0, 2),)), (SQUARE, view(-1, 1, 2, 1, 1), ((1,),)),
            (ALL, WIDE, ((2, 2), (2, 2))), (NONE, WIDE, ((0, 0), (0, 0))), (TWO_HALVES, view(-1, 1, 2, 1, 1), ((2,),)), (SLIVER, view(0, 1, 2, 1, 1), ((0,),)), (LOW, view(0, 1, 1, 1, 2), ((0,), (2,))),
            (LOW, view(0, Fraction(1, 2), 1, 1, 2), ((1,), (2,))),
            # The disc touches the dots beside it, and those are empty; outside of it they are full.
            (DISC, view(-2, 1, 1, 4, 1), ((0, 1, 1, 0),)), (("outside", DISC), view(1, 1, 2, 1, 1), ((2,),)), (("outside", DISC), view(-2, 1, 1, 4, 1), ((2, 1, 1, 2),)), (DISC, view(-1, 3, 2, 1, 2), ((0,), (1,))),
            # All of the circle lies within one dot, and far within it.
            (DISC, view(-2, 2, 4, 1, 1), ((1,),)), (DISC, view(-9, 9, 18, 1, 1), ((1,),)), (disc(0, 0, Fraction(1, 10 ** 40)), WIDE, ((1, 1), (1, 1))), (disc(Fraction(1, 2), Fraction(1, 2), Fraction(1, 4)), WIDE, ((0, 1), (0, 0))),
            (disc(Fraction(1, 2), Fraction(1, 2), Fraction(1, 10 ** 40)), WIDE, ((0, 1), (0, 0))), (disc(0, 0, 100), WIDE, ((2, 2), (2, 2))), (disc(0, 0, 2), WIDE, ((2, 2), (2, 2))), (disc(0, 0, Fraction(199, 100)), WIDE, ((1, 1), (1, 1))),
            # The sides of the lines of the view are the square's, its corners those of dots.
            (box(-1, -1, 1, 1), view(-2, 2, 1, 4, 4), ((0, 0, 0, 0), (0, 2, 2, 0), (0, 2, 2, 0), (0, 0, 0, 0))), (WEDGE, view(0, 1, 1, 1, 1), ((1,),)), (WEDGE, view(0, 1, HALF_SIDE, 2, 2), ((1, 0), (2, 1))),
            (("less", box(-1, -1, 1, 1), SQUARE), WIDE, ((2, 0), (2, 2))), (("join", SQUARE, box(1, 0, 2, 1)), view(0, 1, 2, 1, 1), ((1,),)), (("join", SQUARE, box(1, 0, 2, 1)), view(Fraction(1, 2), 1, 1, 1, 1), ((2,),)),
            (polygon((0, 0), (2, 0), (0, 2)), view(0, 2, 1, 2, 2), ((1, 0), (2, 1))), (BOWL, WIDE, ((0, 0), (1, 1))), (TWO_DISCS, view(0, 1, 1, 2, 2), ((1, 1), (1, 1))),
        ):
            self.assert_plain(dots(figure, told), wanted)
            self.assert_plain(dots(view=told, figure=figure), wanted)
            self.check(figure, told)

    def test_curves_along_the_lines_of_views(self):
        chance = random.Random(161)
        for _ in range(40):
            figure = some_right_figure(chance, chance.randint(1, 4), 5)
            self.check(figure, view(chance.randint(-2, 0), chance.randint(0, 2), chance.choice((1, Fraction(1, 2))), chance.randint(1, 4), chance.randint(1, 4)))

    def test_any_views(self):
        chance = random.Random(162)
        for _ in range(40):
            figure = some_right_figure(chance, chance.randint(1, 4), 5)
            self.check(figure, view(Fraction(chance.randint(-9, 3), 3), Fraction(chance.randint(-3, 9), 5), Fraction(chance.randint(1, 9), chance.choice((3, 7))), chance.randint(1, 5), chance.randint(1, 4)))

    def test_48_each_way(self):
        for figure in (DISC, TWO_DISCS, WEDGE, ("outside", BOWL)):
            told = view(Fraction(-3, 2), Fraction(5, 4), Fraction(1, 20), 48, 48)
            found = dots(figure, told)
            self.assertEqual([len(row) for row in found], [48] * 48)
            chance = random.Random(163)
            for _ in range(150):
                row, column = chance.randrange(48), chance.randrange(48)
                inside = box_of(told, row, column)
                self.assertEqual(found[row][column], 2 if is_within(inside, figure) else 0 if are_apart(inside, figure) else 1)
        self.assertEqual(dots(DISC, view(-24, 24, 1, 48, 48))[23][22:26], (0, 1, 1, 0))
        self.assertEqual(len(dots(DISC, view(0, 0, 1, 1, 48))), 48)
        self.assertEqual(len(dots(DISC, view(0, 0, 1, 48, 1))[0]), 48)

    def test_dots_that_are_cut(self):
        """A full dot has full ones alone, an empty one empty ones, a mixed one neither; areas come nearer."""
        chance = random.Random(164)
        for _ in range(60):
            figure = some_right_figure(chance, chance.randint(1, 4))
            told = view(Fraction(chance.randint(-6, 0), 2), Fraction(chance.randint(0, 6), 2), Fraction(chance.randint(1, 4), 3), chance.randint(1, 12), chance.randint(1, 12))
            for fine in (2, 3):
                rows = dots(figure, told)
                cut = dots(figure, (told[0], pair(fraction(told[1]) / fine), told[2] * fine, told[3] * fine))
                for row in range(told[3]):
                    for column in range(told[2]):
                        parts = {kind for line in cut[row * fine:(row + 1) * fine] for kind in line[column * fine:(column + 1) * fine]}
                        if rows[row][column] == 1:
                            self.assertNotIn(parts, ({0}, {2}))
                        else:
                            self.assertEqual(parts, {rows[row][column]})
                low, high = map(fraction, covered(figure, told))
                less, more = map(fraction, covered(figure, (told[0], pair(fraction(told[1]) / fine), told[2] * fine, told[3] * fine)))
                self.assertTrue(low <= less <= more <= high)

    def test_points_within_tell_so(self):
        chance = random.Random(165)
        for _ in range(60):
            figure = some_right_figure(chance, chance.randint(1, 5))
            told = view(Fraction(chance.randint(-6, 0), 2), Fraction(chance.randint(0, 6), 2), Fraction(chance.randint(1, 4), 3), 6, 6)
            found = dots(figure, told)
            for _ in range(60):
                row, column = chance.randrange(6), chance.randrange(6)
                (x, y), (u, v) = [[fraction(part) for part in place] for place in dot_square(told, row, column)]
                place = point(x + (u - x) * Fraction(chance.randint(1, 9), 10), y + (v - y) * Fraction(chance.randint(1, 9), 10))
                word = telling(figure, place)
                self.assertIn(found[row][column], {"in": (1, 2), "out": (0, 1), "rim": (1,)}[word])

    def test_areas(self):
        chance = random.Random(166)
        for _ in range(30):
            figure = ("common", some_right_figure(chance, 3, 5), box(-2, -2, 2, 2))
            area = fraction(area_between(figure, 10 ** 6)[0])
            low, high = map(fraction, covered(figure, view(-2, 2, Fraction(1, 8), 32, 32)))
            self.assertLessEqual(low, area + Fraction(1, 10 ** 5))
            self.assertGreaterEqual(high, area)
            self.assertLess(high - low, 8)
        self.assert_plain(covered(DISC, NEAR), (ONE, (4, 1)))
        self.assert_plain(covered(ALL, view(0, 0, Fraction(1, 3), 48, 2)), ((32, 3), (32, 3)))
        self.assert_plain(covered(NONE, view(0, 0, Fraction(1, 3), 48, 2)), (NIL, NIL))

    def test_great_numbers(self):
        big = 10 ** 200
        self.assert_plain(dots(disc(big, -big, 1), view(big - 1, 1 - big, 1, 2, 2)), ((1, 1), (1, 1)))
        self.assert_plain(dots(disc(0, 0, big * big), view(-big, big, big, 2, 2)), ((1, 1), (1, 1)))
        self.assert_plain(dots(half(1, 0, Fraction(1, big)), view(-1, 1, 1, 2, 1)), ((2, 1),))
        self.assert_plain(dots(half(1, 0, 0), view(Fraction(1, big), 1, 1, 1, 1)), ((0,),))


class Pictures(Told, unittest.TestCase):
    def check(self, figure, told, fine):
        found = picture(figure, told, fine)
        self.assertTrue(is_picture(found))
        cut = dots_by_boxes(figure, told, fine)
        wanted = []
        for row in range(told[3]):
            greys = []
            for column in range(told[2]):
                kinds = [cut[row * fine + j][column * fine + i] for j in range(fine) for i in range(fine)]
                greys.append(255 - int(Fraction(255 * (2 * kinds.count(2) + kinds.count(1)), 2 * fine * fine)))
            wanted.append(tuple(greys))
        self.assert_plain(found, tuple(wanted))

    def test_by_hand(self):
        for figure, told, fine, wanted in (
            (DISC, WIDE, 2, ((96, 96), (96, 96))), (DISC, WIDE, 1, ((128, 128), (128, 128))), (SQUARE, view(-1, 1, 1, 2, 1), 1, ((255, 0),)), (SQUARE, view(-1, 1, 1, 2, 1), 4, ((255, 0),)), (ALL, WIDE, 3, ((0, 0), (0, 0))),
            (NONE, WIDE, 4, ((255, 255), (255, 255))), (LOW, view(0, Fraction(1, 2), 1, 1, 1), 1, ((128,),)), (LOW, view(0, Fraction(1, 2), 1, 1, 1), 2, ((128,),)), (LOW, view(0, Fraction(1, 2), 1, 1, 1), 3, ((128,),)),
            (LOW, view(0, Fraction(1, 4), 1, 1, 1), 4, ((64,),)), (LOW, view(0, Fraction(1, 4), 1, 1, 1), 2, ((64,),)), (LOW, view(0, Fraction(3, 4), 1, 1, 1), 4, ((192,),)),
        ):
            self.assert_plain(picture(figure, told, fine), wanted)
            self.assert_plain(picture(fine=fine, view=told, figure=figure), wanted)
            self.check(figure, told, fine)
        self.assert_plain(picture_letters(picture(DISC, WIDE, 1)), ("==", "=="))
        self.assert_plain(picture_letters(((255, 0),)), (" @",))

    def test_many(self):
        chance = random.Random(167)
        for fine in (1, 2, 3, 4):
            for _ in range(10):
                figure = some_right_figure(chance, chance.randint(1, 4), 5)
                self.check(figure, view(Fraction(chance.randint(-6, 2), 3), Fraction(chance.randint(-2, 6), 3), Fraction(chance.randint(1, 6), 3), chance.randint(1, 3), chance.randint(1, 2)), fine)

    def test_the_greatest(self):
        figure = ("less", ("join", disc(0, 0, 20), disc(3, 3, 9)), ("repeat", 6, point(Fraction(1, 2), Fraction(-1, 3)), disc(-2, 0, 2)))
        found = picture(figure, view(-6, 6, Fraction(1, 4), 48, 48), 4)
        self.assertTrue(is_picture(found))
        self.assertEqual((len(found), len(found[0])), (48, 48))
        # The greys tell an area: 255 less each one, of 255, within two dots' rims of what it is.
        dark = Fraction(sum(255 - grey for row in found for grey in row), 255 * 16)
        self.assertLess(abs(dark - fraction(area_between(figure, 100)[0])), 1)
        self.assertEqual([len(row) for row in picture_letters(found)], [48] * 48)

    def test_figures_that_are_one(self):
        chance = random.Random(168)
        for _ in range(30):
            first, second = some_right_figure(chance, 2, 4), some_right_figure(chance, 2, 4)
            told, fine = view(Fraction(chance.randint(-6, 0), 2), Fraction(chance.randint(0, 6), 2), Fraction(chance.randint(1, 4), 3), 9, 8), chance.randint(1, 4)
            for other in (("join", first, ("common", first, second)), ("outside", ("outside", first)), ("join", ("less", first, second), ("common", second, first)), moved(1, 2, moved(-1, -2, first))):
                self.assert_plain(picture(other, told, fine), picture(first, told, fine))

    def test_led_with_the_view(self):
        """Moved and widened with its view a figure has the same picture."""
        chance = random.Random(169)
        for _ in range(20):
            figure = some_right_figure(chance, 3, 6)
            told = view(-2, 2, Fraction(1, 3), 12, 12)
            many, shift = Fraction(chance.randint(1, 5), 3), point(chance.randint(-9, 9), Fraction(1, 7))
            by = behind(lead(many, 0, False, 0, 0), move(shift))
            other = (led_place(by, told[0]), pair(fraction(told[1]) * many), 12, 12)
            self.assert_plain(picture(("led", by, figure), other, 2), picture(figure, told, 2))
            self.assertEqual(len(curves_of(("led", by, figure))), len(curves_of(figure)))
            # In a mirror left and right are exchanged.
            by = lead(-1, 0, True, 0, 0)
            self.assert_plain(dots(("led", by, figure), told), tuple(row[::-1] for row in dots(figure, told)))
            self.assertIs(is_in(figure, Fraction(1, 97), Fraction(1, 89)), is_in(("led", by, figure), Fraction(-1, 97), Fraction(1, 89)))


def dots_by_boxes(figure, told, fine):
    """The dots of a view cut more finely, by what is within and apart."""
    cut = (told[0], pair(fraction(told[1]) / fine), told[2] * fine, told[3] * fine)
    rows = []
    for row in range(cut[3]):
        boxes = [box_of(cut, row, column) for column in range(cut[2])]
        rows.append([2 if is_within(inside, figure) else 0 if are_apart(inside, figure) else 1 for inside in boxes])
    return rows


if __name__ == "__main__":
    unittest.main()
