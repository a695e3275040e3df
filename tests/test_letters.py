"""Figures drawn by letters ([34])."""

import random
import unittest
from fractions import Fraction

from planehall import errors
from planehall.letters import letters
from planehall.meaning import telling
from planehall.rimform import told_at
from tests.helpers import HALF, MINUS, NIL, ONE, TWO, Told, kind_of, pair, raised
from tests.oracle import (
    ALL, BOWL, DISC, LOW, NONE, SLIVER, SQUARE, TWO_HALVES, box, disc, half, is_in, moved, point, some_right_figure,
)

SIGNS = {"in": "#", "out": ".", "rim": "+"}


def middle(low, high, row, column, count):
    """The middle of a square, by Python's fractions."""
    (x, y), (u, v) = low, high
    return (x + Fraction(2 * column + 1, 2 * count) * (u - x), v - Fraction(2 * row + 1, 2 * count) * (v - y))


class Letters(Told, unittest.TestCase):
    def check(self, figure, low, high, *wanted):
        self.assert_plain(letters(figure, point(*low), point(*high), len(wanted)), tuple(wanted))

    def test_by_hand(self):
        self.check(DISC, (-1, -1), (1, 1), ".##.", "####", "####", ".##.")
        self.check(LOW, (-1, -1), (1, 1), "...", "+++", "###")
        self.check(LOW, (-1, -1), (1, 1), "..", "##")
        self.check(ALL, (0, 0), (1, 1), "#")
        self.check(NONE, (0, 0), (1, 1), "..", "..")
        self.check(TWO_HALVES, (-1, -1), (1, 1), "###", "###", "###")
        self.check(SLIVER, (-1, -1), (3, 1), "...", "...", "...")
        self.check(half(1, 0, 0), (-1, -1), (1, 1), "#+.", "#+.", "#+.")
        self.check(half(1, -1, 0), (-1, -1), (1, 1), "##+", "#+.", "+..")
        self.check(SQUARE, (-1, -1), (2, 2), "...", ".#.", "...")
        self.check(SQUARE, (Fraction(-1, 2), Fraction(-1, 2)), (Fraction(5, 2), Fraction(5, 2)), "...", "++.", "++.")
        self.check(DISC, (-1, 0), (0, 1), ".#", "##")
        self.check(BOWL, (-1, -1), (1, 1), "....", "....", "####", ".##.")

    def test_the_first_row_is_the_highest(self):
        self.check(box(0, 1, 1, 2), (0, 0), (2, 2), "#.", "..")
        self.check(box(1, 0, 2, 1), (0, 0), (2, 2), "..", ".#")

    def test_windows_of_any_sides(self):
        self.check(disc(0, 0, 4), (-4, -1), (4, 1), ".##.", ".##.", ".##.", ".##.")
        self.check(moved(100, -100, SQUARE), (99, -101), (102, -98), "...", ".#.", "...")
        self.check(half(0, 1, Fraction(1, 3)), (5, 0), (6, 1), "...", "...", "###")
        self.check(half(0, 1, Fraction(1, 2)), (5, 0), (6, 1), "...", "+++", "###")

    def test_each_letter_is_the_telling_there(self):
        chance = random.Random(151)
        seen = {"#": 0, ".": 0, "+": 0}
        for _ in range(80):
            figure, count = some_right_figure(chance, chance.randint(1, 4)), chance.randint(1, 7)
            low = (Fraction(chance.randint(-4, 0), 2), Fraction(chance.randint(-4, 0), 2))
            high = (low[0] + chance.randint(1, 4), low[1] + Fraction(chance.randint(1, 9), 2))
            rows = letters(figure, (pair(low[0]), pair(low[1])), (pair(high[0]), pair(high[1])), count)
            self.assertIs(kind_of(rows), tuple)
            self.assertEqual(len(rows), count)
            for i, row in enumerate(rows):
                self.assertIs(kind_of(row), str)
                self.assertEqual(len(row), count)
                for j, sign in enumerate(row):
                    x, y = middle(low, high, i, j, count)
                    self.assertEqual(sign, SIGNS[told_at(figure, (pair(x), pair(y)))])
                    self.assertEqual(sign, SIGNS[telling(figure, (pair(x), pair(y)))])
                    seen[sign] += 1
        self.assertGreater(min(seen.values()), 10)

    def test_by_plain_membership(self):
        chance = random.Random(152)
        for _ in range(30):
            figure = some_right_figure(chance, 3)
            # At such points no curve of small numbers passes.
            low, high = (Fraction(-2001, 1009), Fraction(-2003, 1013)), (Fraction(2011, 1019), Fraction(2017, 1021))
            rows = letters(figure, (pair(low[0]), pair(low[1])), (pair(high[0]), pair(high[1])), 12)
            for i, row in enumerate(rows):
                for j, sign in enumerate(row):
                    self.assertEqual(sign, "#" if is_in(figure, *middle(low, high, i, j, 12)) else ".")

    def test_48(self):
        rows = letters(DISC, (MINUS, MINUS), (ONE, ONE), 48)
        self.assertEqual((len(rows), {len(row) for row in rows}), (48, {48}))
        self.assertEqual(rows, rows[::-1])
        self.assertEqual(sum(row.count("#") for row in rows), sum((2 * i - 47) ** 2 + (2 * j - 47) ** 2 < 48 * 48 for i in range(48) for j in range(48)))

    def test_errors_in_order(self):
        low, high = (NIL, NIL), (ONE, TWO)
        for figure, kind, given in ((None, errors.InvalidFigure, None), (DISC, errors.InvalidPoint, "low")):
            self.assert_given(kind, given, letters, figure, "low", "high", 49)
        self.assert_given(errors.InvalidPoint, "high", letters, DISC, low, "high", 49)
        for wrong in (low, (NIL, ONE), (ONE, NIL), (MINUS, TWO), (TWO, MINUS), (MINUS, MINUS)):
            self.assert_given(errors.InvalidPoint, wrong, letters, DISC, low, wrong, 49)
            self.assert_given(errors.InvalidPoint, wrong, letters, count=1, high=wrong, low=low, figure=DISC)
        for wrong in (0, 49, -1, True, None, "1", (1,), HALF):
            self.assert_given(errors.InvalidCount, wrong, letters, DISC, low, high, wrong)
        ten = ALL
        for k in range(10):
            ten = ("join", ten, disc(k, 0, 1))
        error = raised(letters, ten, None, None, None)
        self.assertEqual((kind_of(error), error.given), (errors.TooMany, 10))


if __name__ == "__main__":
    unittest.main()
