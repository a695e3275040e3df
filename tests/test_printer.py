"""Sketches, books and scenes as plain texts ([31])."""

import random
import unittest
from fractions import Fraction

from planehall import errors
from planehall.printer import book_text, scene_text, sketch_text
from planehall.reader import read_book, read_scene, read_sketch
from planehall.sketches import is_scene, is_sketch, names_in
from tests.grammar import sketch_of, some_tree, split
from tests.helpers import HALF, MINUS, NIL, ONE, TWO, Told, kind_of, raised
from tests.oracle import ALL, DISC, LOW, NONE, SQUARE, WEDGE, box, disc, half, lead, polygon, some_figure

ORIGIN = (NIL, NIL)
A, B, C, D = [("name", name) for name in "abcd"]
A_OR_B, A_LESS_B, A_AND_B = [(word, A, B) for word in ("join", "less", "common")]


def led(told, sketch):
    return ("led", told, sketch)


class Texts(Told, unittest.TestCase):
    def check(self, sketch, wanted):
        self.assert_plain(sketch_text(sketch), wanted)
        self.assert_plain(sketch_text(sketch=sketch), wanted)
        self.assert_plain(read_sketch(wanted), sketch)

    def test_atoms(self):
        self.check(ALL, "all")
        self.check(NONE, "none")
        self.check(A, "a")
        self.check(("name", "x" * 24), "x" * 24)
        self.check(LOW, "half(0, 1, 0)")
        self.check(half(Fraction(-1, 2), 3, Fraction(22, 7)), "half(-1/2, 3, 22/7)")
        self.check(DISC, "disc(0, 0; 1)")
        self.check(disc(-1, Fraction(1, 3), Fraction(9, 4)), "disc(-1, 1/3; 9/4)")
        self.check(SQUARE, "box(0, 0; 1, 1)")
        self.check(box(-2, Fraction(-7, 3), 5, 0), "box(-2, -7/3; 5, 0)")
        self.check(WEDGE, "polygon((0, 0), (1, 0), (0, 1))")
        self.check(polygon((0, 0), (2, 0), (3, 1), (2, 2), (0, 2), (-1, 1)), "polygon((0, 0), (2, 0), (3, 1), (2, 2), (0, 2), (-1, 1))")

    def test_prefixes(self):
        self.check(("outside", A), "not a")
        self.check(("outside", ("outside", ALL)), "not not all")
        self.check(("repeat", 6, (HALF, MINUS), DISC), "repeat(6; 1/2, -1) disc(0, 0; 1)")
        self.check(("repeat", 1, ORIGIN, ("outside", A)), "repeat(1; 0, 0) not a")
        for told, wanted in (
            (lead(1, 0, False, 0, 0), "move(0, 0)"), (lead(1, 0, False, Fraction(1, 2), -3), "move(1/2, -3)"), (lead(2, 0, False, 0, 0), "scale(2)"), (lead(-1, 0, False, 0, 0), "scale(-1)"),
            (lead(Fraction(-1, 2), 0, False, 0, 0), "scale(-1/2)"), (lead(2, 0, False, 1, 0), "lead(2, 0; 1, 0)"), (lead(2, 0, False, 0, Fraction(1, 9)), "lead(2, 0; 0, 1/9)"),
            (lead(-1, 0, False, 0, 1), "lead(-1, 0; 0, 1)"), (lead(0, 1, False, 0, 0), "lead(0, 1; 0, 0)"), (lead(1, 1, False, 0, 0), "lead(1, 1; 0, 0)"), (lead(1, -1, False, 2, 3), "lead(1, -1; 2, 3)"),
            (lead(1, 0, True, 0, 0), "flip(1, 0; 0, 0)"), (lead(1, 0, True, 2, 3), "flip(1, 0; 2, 3)"), (lead(2, 0, True, 0, 0), "flip(2, 0; 0, 0)"), (lead(0, Fraction(-3, 4), True, -1, 0), "flip(0, -3/4; -1, 0)"),
        ):
            self.check(led(told, A), wanted + " a")
            self.check(led(told, A_OR_B), wanted + " (a | b)")

    def test_brackets(self):
        for sketch, wanted in (
            (A_OR_B, "a | b"), (A_LESS_B, "a - b"), (A_AND_B, "a & b"),
            (("join", A_OR_B, C), "a | b | c"), (("join", A_LESS_B, C), "a - b | c"), (("join", A_AND_B, C), "a & b | c"), (("less", A_OR_B, C), "a | b - c"),
            (("less", A_LESS_B, C), "a - b - c"), (("less", A_AND_B, C), "a & b - c"), (("common", A_OR_B, C), "(a | b) & c"), (("common", A_LESS_B, C), "(a - b) & c"),
            (("common", A_AND_B, C), "a & b & c"),
            (("join", C, A_OR_B), "c | (a | b)"), (("join", C, A_LESS_B), "c | (a - b)"), (("join", C, A_AND_B), "c | a & b"), (("less", C, A_OR_B), "c - (a | b)"),
            (("less", C, A_LESS_B), "c - (a - b)"), (("less", C, A_AND_B), "c - a & b"), (("common", C, A_OR_B), "c & (a | b)"), (("common", C, A_LESS_B), "c & (a - b)"),
            (("common", C, A_AND_B), "c & (a & b)"),
            (("outside", A_OR_B), "not (a | b)"), (("outside", A_LESS_B), "not (a - b)"), (("outside", A_AND_B), "not (a & b)"), (("repeat", 2, (ONE, NIL), A_AND_B), "repeat(2; 1, 0) (a & b)"),
            (("repeat", 2, (ONE, NIL), A_LESS_B), "repeat(2; 1, 0) (a - b)"), (led(lead(1, 0, False, 1, 0), A_AND_B), "move(1, 0) (a & b)"),
            (("join", ("outside", A), ("outside", B)), "not a | not b"), (("common", ("outside", A), ("outside", B)), "not a & not b"), (("common", ("outside", A_OR_B), C), "not (a | b) & c"),
            (("outside", ("common", ("outside", A), B)), "not (not a & b)"), (("less", ("join", A_AND_B, A_AND_B), ("join", A_AND_B, A_AND_B)), "a & b | a & b - (a & b | a & b)"),
            (("common", ("common", A_OR_B, A_AND_B), ("outside", A_AND_B)), "(a | b) & (a & b) & not (a & b)"), (("join", C, ("less", A_OR_B, ("join", C, D))), "c | (a | b - (c | d))"),
        ):
            self.check(sketch, wanted)

    def test_numbers_of_400_digits(self):
        big = 10 ** 400 - 1
        for number in ((big, 1), (-big, 1), (1, big), (-big, big - 1)):
            for sketch in (("half", ONE, NIL, number), led((ONE, NIL, False, (number, number)), A), ("repeat", 2, (number, NIL), A), ("disc", number, number, (big, big - 1))):
                self.assertIs(is_sketch(sketch), True)
                self.assert_plain(read_sketch(sketch_text(sketch)), sketch)
        text = sketch_text(("half", ONE, NIL, (10 ** 400, 1)))
        self.assertEqual(text, "half(1, 0, 1" + "0" * 400 + ")")
        error = raised(read_sketch, text)
        self.assertEqual((kind_of(error), error.spot), (errors.BadText, 11))

    def test_any_sketches_come_back(self):
        chance = random.Random(121)
        texts = {}
        for deep in (1, 2, 3, 4, 5, 6) * 80:
            sketch = sketch_of(some_tree(chance, deep, ["a", "b", "x_9"], 0))
            text = sketch_text(sketch)
            self.assert_plain(read_sketch(text), sketch)
            self.assertEqual(text, sketch_text(read_sketch(text)))
            self.assertEqual(repr(texts.setdefault(text, sketch)), repr(sketch))
            self.assertEqual([word for _, word in split(text) if word in ("a", "b", "x_9")], in_order(sketch))
            self.assertEqual(names_in(sketch), tuple(dict.fromkeys(in_order(sketch))))
        for _ in range(150):
            figure = some_figure(chance, 4)
            self.assert_plain(read_sketch(sketch_text(figure)), figure)

    def test_needless_brackets_are_none(self):
        """Without any one pair of its brackets round a sketch a text is not read as the same."""
        chance = random.Random(122)
        seen = 0
        for _ in range(150):
            sketch = sketch_of(some_tree(chance, 4, ["a", "b"], 0))
            text = sketch_text(sketch)
            for k, word in enumerate(text):
                if word == "(" and (k == 0 or text[k - 1] in " (") and not text[k + 1:k + 2].isdigit() and text[k + 1] != "-":
                    less = without_pair(text, k)
                    self.assertNotEqual(repr(raised(read_sketch, less) or read_sketch(less)), repr(sketch), text)
                    seen += 1
        self.assertGreater(seen, 100)

    def test_twelve_deep(self):
        for make in (lambda part: ("outside", part), lambda part: ("common", A, part), lambda part: ("less", part, part), lambda part: ("outside", ("common", part, A))):
            sketch = A
            while is_sketch(make(sketch)):
                sketch = make(sketch)
            self.assert_plain(read_sketch(sketch_text(sketch)), sketch)
            self.assert_given(errors.InvalidSketch, deeper := make(sketch), sketch_text, deeper)


def in_order(sketch):
    if sketch[0] == "name":
        return [sketch[1]]
    parts = sketch[1:] if sketch[0] in ("join", "less", "common") else sketch[-1:] if sketch[0] in ("outside", "led", "repeat") else ()
    return [name for part in parts for name in in_order(part)]


def without_pair(text, start):
    """A text without the bracket at an index and the one that closes it."""
    many = 0
    for k in range(start, len(text)):
        many += {"(": 1, ")": -1}.get(text[k], 0)
        if many == 0:
            return text[:start] + text[start + 1:k] + text[k + 1:]
    return text


class Books(Told, unittest.TestCase):
    def test_by_hand(self):
        self.assert_plain(book_text(()), "")
        self.assert_plain(book_text((("a", ALL),)), "let a = all;\n")
        self.assert_plain(book_text(book=(("b", A_FREE), ("a", ("outside", B)))), "let b = half(0, 1, 0) | disc(0, 0; 1);\nlet a = not b;\n")
        self.assert_plain(scene_text(((), ALL)), "all")
        self.assert_plain(scene_text(scene=((("a", ALL), ("b", A)), ("common", B, A_OR_B))), "let a = all;\nlet b = a;\nb & (a | b)")

    def test_they_come_back(self):
        chance = random.Random(123)
        for _ in range(100):
            rows, names = [], []
            for name in chance.sample(["a", "b", "c", "box_"], chance.randint(0, 3)):
                rows.append((name, sketch_of(some_tree(chance, 3, names, 0))))
                names = names + [name]
            book, last = tuple(rows), sketch_of(some_tree(chance, 3, names, 0))
            if is_scene((book, last)):
                self.assert_plain(read_book(book_text(book)), book)
                self.assert_plain(read_scene(scene_text((book, last))), (book, last))
                self.assertEqual(scene_text((book, last)), book_text(book) + sketch_text(last))

    def test_too_many(self):
        great = ("repeat", 5, ORIGIN, ("repeat", 5, ORIGIN, ("join", SQUARE, SQUARE)))
        nine = nine_discs()
        for book, many in (
            ((("a", great), ("b", ("join", A, ALL))), 201), ((("a", nine), ("b", ("join", A, LOW))), 10), ((("a", nine), ("b", great), ("c", ("less", B, A)), ("d", ("join", A, LOW))), 209),
            ((("a", nine), ("c", ("less", LOW, A)), ("b", ("repeat", 2, ORIGIN, great))), 10),
        ):
            for error in (raised(book_text, book), raised(scene_text, (book, ALL)), raised(scene_text, (book[:-1], book[-1][1]))):
                self.assertIs(kind_of(error), errors.TooMany)
                self.assert_plain(error.given, many)
        self.assertEqual(book_text((("a", great),)), f"let a = {sketch_text(great)};\n")
        self.assertIs(kind_of(sketch_text(("join", great, great))), str)

    def test_too_deep_is_no_scene(self):
        six = A
        for _ in range(6):
            six = ("outside", six)
        row = (("a", ALL), ("b", six))
        self.assertIn("let b", book_text(row))
        deep = row + (("c", ("join", ("outside", ("outside", ("outside", ("outside", B)))), TWO_DEEP)),)
        self.assertIn("let c", book_text(deep))
        deeper = deep + (("d", ("outside", C)),)
        self.assert_given(errors.InvalidScene, deeper, book_text, deeper)
        scene = (deep, ("outside", C))
        self.assert_given(errors.InvalidScene, scene, scene_text, scene)


A_FREE = ("join", LOW, DISC)
TWO_DEEP = ("outside", box(TWO[0], 0, 3, 1))


def nine_discs():
    found = disc(0, 0, 1)
    for k in range(1, 9):
        found = ("join", found, disc(k, 0, 1))
    return found


if __name__ == "__main__":
    unittest.main()
