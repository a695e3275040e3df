"""The examples of the interface, with the answers and errors as they stand there."""

import unittest

from planehall import errors

ROOTS = r"""
>>> from planehall.roots import between, is_number, less, lie_in_one, near, order, plus, root_of, times
>>> nil, half, one, two, three, four, minus = (0, 1), (1, 2), (1, 1), (2, 1), (3, 1), (4, 1), (-1, 1)
>>> [is_number((1, 0, -2, True)), is_number((1, 0, -4, True)), is_number((2, 4, -6, True)), root_of(two), root_of(four), root_of(half)]
[True, False, False, (1, 0, -2, True), (2, 1), (2, 0, -1, True)]
>>> [order(root_of(two), (3, 2)), order(plus(one, root_of(two)), root_of((6, 1))), order((1, 0, -2, False), (1, 0, -2, True)), lie_in_one(root_of(two), root_of(half)), lie_in_one(root_of(two), root_of(three))]
[-1, -1, -1, True, False]
>>> [plus(one, root_of(two)), times(root_of(two), root_of(half)), less(root_of(half), root_of(two)), near(root_of(two), 10), near(half, 4), order(between(root_of(two), (3, 2)), (3, 2))]
[(1, -2, -1, True), (1, 1), (2, 0, -1, False), (14, False), (2, True), -1]
>>> plus(root_of(two), root_of(three))
raises InvalidNumber(given=(1, 0, -3, True))
"""

CURVES = r"""
>>> from planehall.curves import circle_through, crossings, do_touch, form_of, is_curve, is_place, line_through, sign_at
>>> ring, floor, slope = ("circle", nil, nil, one), ("line", nil, one, nil), ("line", minus, one, nil)
>>> [is_curve(ring), is_curve(("circle", nil, nil, nil)), is_place((root_of(two), root_of(three))), form_of(slope), form_of(("line", nil, (-1, 2), (1, 3)))]
[True, False, False, ('line', (1, 1), (-1, 1), (0, 1)), ('line', (0, 1), (3, 1), (-2, 1))]
>>> [crossings(ring, floor), crossings(ring, slope), crossings(ring, ("line", one, nil, one)), do_touch(ring, ("line", one, nil, one)), sign_at(ring, (half, half)), sign_at(floor, (root_of(two), root_of(half)))]
[(((-1, 1), (0, 1)), ((1, 1), (0, 1))), (((2, 0, -1, False), (2, 0, -1, False)), ((2, 0, -1, True), (2, 0, -1, True))), (((1, 1), (0, 1)),), True, -1, 1]
>>> [crossings(ring, ("circle", one, nil, one)), line_through((nil, nil), (one, one)), circle_through((one, nil), (nil, one), (minus, nil)), circle_through((nil, nil), (one, one), (two, two))]
[(((1, 2), (4, 0, -3, False)), ((1, 2), (4, 0, -3, True))), ('line', (1, 1), (-1, 1), (0, 1)), ('circle', (0, 1), (0, 1), (1, 1)), None]
"""

COLUMNS = r"""
>>> from planehall.columns import events, gap_of, sample, stack, wall
>>> cross = (ring, floor)
>>> [events(cross), stack(cross, 0), stack(cross, 1), wall(cross, 0), sample((), 0) is None, gap_of(cross, (nil, half)), gap_of(cross, (one, half))]
[((-1, 1), (1, 1)), ((1, 0),), ((0, -1), (1, 0), (0, 1)), ((0, 1),), False, (1, 2), None]
>>> [events((ring, ("line", one, nil, nil))), wall((ring, ("line", one, nil, nil)), 1), stack((), 0)]
[((-1, 1), (0, 1), (1, 1)), ((0,), (0,)), ()]
"""


def cases(text):
    """The pairs of a line of code and what is told behind it, None if nothing is."""
    rows = text.strip().split("\n")
    found = []
    for k, row in enumerate(rows):
        if row.startswith(">>> "):
            answer = rows[k + 1] if k + 1 < len(rows) else ">>>"
            found.append((row[4:], None if answer.startswith(">>>") else answer))
    return found


class Examples(unittest.TestCase):
    def answer(self, code, wanted, names):
        if wanted is None:
            exec(code, names)
        elif wanted.startswith("raises "):
            error = eval(wanted[len("raises "):], dict(vars(errors), **names))
            with self.assertRaises(error.__class__) as caught:
                eval(code, names)
            self.assertIs(caught.exception.__class__, error.__class__)
            self.assertEqual(repr(vars(caught.exception)), repr(vars(error)))
        else:
            self.assertEqual(repr(eval(code, names)), wanted, code)

    def test_examples(self):
        # The names of one heading are used under those behind it.
        names, many = {}, 0
        for text in (ROOTS, CURVES, COLUMNS):
            for code, wanted in cases(text):
                self.answer(code, wanted, names)
                many += 1
        self.assertEqual(many, 15)


if __name__ == "__main__":
    unittest.main()
