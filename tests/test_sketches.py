"""Sketches, their names, scenes and what they are filled ([29], [32])."""

import random
import unittest

from planehall import errors
from planehall.figures import depth_of, is_figure
from planehall.sketches import is_scene, is_sketch, names_in, renamed, scene_figure
from tests.grammar import sketch_of, some_tree
from tests.helpers import NIL, ONE, TWO, Told, kind_of, raised
from tests.oracle import ALL, BOWL, DISC, LOW, NONE, SQUARE, disc, half, lead, moved, some_right_figure

ORIGIN, EAST = (NIL, NIL), (ONE, NIL)
A, B, C, D = [("name", name) for name in "abcd"]


def filled(sketch, table):
    """A sketch with what a dict tells in the place of names, told by all its parts."""
    if isinstance(sketch, tuple) and len(sketch) == 2 and sketch[0] == "name":
        return table.get(sketch[1], sketch)
    return tuple(filled(part, table) for part in sketch) if isinstance(sketch, tuple) else sketch


def nots(sketch, many):
    for _ in range(many):
        sketch = ("outside", sketch)
    return sketch


def nine_discs():
    found = disc(0, 0, 1)
    for k in range(1, 9):
        found = ("join", found, disc(k, 0, 1))
    return found


class Sketches(Told, unittest.TestCase):
    def test_figures_are_sketches(self):
        chance = random.Random(131)
        for deep in (1, 2, 3, 4) * 20:
            self.assertIs(is_sketch(some_right_figure(chance, deep)), True)
        # So are those that are too much for a figure.
        great = ("repeat", 6, ORIGIN, ("repeat", 6, ORIGIN, ("repeat", 6, ORIGIN, SQUARE)))
        ten = ("join", nine_discs(), LOW)
        for sketch in (great, ten):
            self.assertIs(is_sketch(sketch), True)
            self.assertIs(is_figure(sketch), False)
            self.assertEqual(names_in(sketch), ())
            self.assertEqual(renamed(sketch, "a", "b"), sketch)

    def test_names_at_any_places(self):
        for sketch in (A, ("outside", A), ("join", A, A), ("common", LOW, A), ("less", A, B), moved(1, 0, A), ("repeat", 2, EAST, A), ("led", lead(1, 1, True, 0, 0), ("less", A, ("outside", B)))):
            self.assertIs(is_sketch(sketch), True)
            self.assertIs(is_figure(sketch), False)
        for wrong in (("name", "box"), ("name", "A"), ("name",), ("name", "a", "b"), ("name", A), ("name", ("a",)), ("outside", ("name", "let")), ("disc", A, NIL, ONE), ("led", A, A), ("repeat", A, EAST, A), ("name", "a" * 25), ("half", "a"), "a"):
            self.assertIs(is_sketch(wrong), False, wrong)
            self.assert_given(errors.InvalidSketch, wrong, names_in, wrong)
            self.assert_given(errors.InvalidSketch, wrong, renamed, wrong, "a", "b")

    def test_twelve_and_thirteen_deep(self):
        for start in (A, DISC):
            for make in (lambda part: ("outside", part), lambda part: ("join", part, B), lambda part: ("less", B, part), lambda part: moved(1, 0, part), lambda part: ("repeat", 2, EAST, part)):
                sketch = start
                for _ in range(11):
                    sketch = make(sketch)
                self.assertIs(is_sketch(sketch), True)
                deeper = make(sketch)
                self.assertIs(is_sketch(deeper), False)
                self.assert_given(errors.InvalidSketch, deeper, names_in, deeper)

    def test_names_in_order(self):
        for sketch, wanted in (
            (DISC, ()), (A, ("a",)), (("join", B, A), ("b", "a")), (("join", A, ("join", B, A)), ("a", "b")), (("less", ("common", C, ("outside", A)), ("join", B, C)), ("c", "a", "b")),
            (("repeat", 2, EAST, ("join", D, DISC)), ("d",)), (moved(1, 0, ("less", B, moved(0, 1, A))), ("b", "a")),
        ):
            self.assert_plain(names_in(sketch), wanted)
            self.assert_plain(names_in(sketch=sketch), wanted)

    def test_renamed(self):
        self.assert_plain(renamed(A, "a", "b"), B)
        self.assert_plain(renamed(A, "b", "c"), A)
        self.assert_plain(renamed(A, "a", "a"), A)
        self.assert_plain(renamed(("join", A, B), "a", "b"), ("join", B, B))
        self.assert_plain(renamed(sketch=("less", B, ("led", (ONE, NIL, False, EAST), A)), name="a", other_name="c"), ("less", B, ("led", (ONE, NIL, False, EAST), C)))
        chance = random.Random(132)
        for _ in range(200):
            sketch = sketch_of(some_tree(chance, 5, ["a", "b", "c"], 0))
            for name, other in (("a", "b"), ("b", "x"), ("z", "a"), ("c", "c")):
                self.assert_plain(renamed(sketch, name, other), filled(sketch, {name: ("name", other)}))
                self.assertEqual(names_in(renamed(sketch, name, other)), tuple(dict.fromkeys(other if told == name else told for told in names_in(sketch))))

    def test_errors_in_order(self):
        self.assert_given(errors.InvalidSketch, None, renamed, None, "box", "let")
        self.assert_given(errors.InvalidName, "box", renamed, A, "box", "let")
        self.assert_given(errors.InvalidName, "let", renamed, A, "a", "let")
        self.assert_given(errors.InvalidName, "let", renamed, other_name="let", name="z", sketch=A)


class Scenes(Told, unittest.TestCase):
    def test_by_hand(self):
        for scene, wanted in (
            (((), ALL), ALL), (((("a", DISC),), A), DISC), (((("a", DISC),), LOW), LOW), (((("a", DISC), ("b", ("less", A, LOW))), ("join", B, A)), ("join", ("less", DISC, LOW), DISC)),
            (((("z", LOW), ("a", ("name", "z")), ("m", A)), ("common", ("name", "m"), ("name", "z"))), ("common", LOW, LOW)), (((("a", SQUARE),), ("led", (TWO, NIL, False, EAST), A)), ("led", (TWO, NIL, False, EAST), SQUARE)),
        ):
            self.assertIs(is_scene(scene), True)
            self.assert_plain(scene_figure(scene), wanted)
            self.assert_plain(scene_figure(scene=scene), wanted)

    def test_any_scenes(self):
        chance = random.Random(133)
        seen = {True: 0, False: 0}
        for _ in range(300):
            rows, table, depths, names = [], {}, {}, []
            for name in chance.sample("abcd", chance.randint(0, 4)):
                sketch = sketch_of(some_tree(chance, 4, names, 0))
                table[name] = filled(sketch, table)
                rows.append((name, sketch))
                names = names + [name]
            last = sketch_of(some_tree(chance, 4, names, 0))
            scene, figures = (tuple(rows), last), list(table.values()) + [filled(last, table)]
            depths = [deep(figure) for figure in figures]
            self.assertIs(is_scene(scene), all(is_figure(figure) for figure in figures))
            seen[is_scene(scene)] += 1
            if is_scene(scene):
                self.assert_plain(scene_figure(scene), figures[-1])
                self.assertEqual(depth_of(figures[-1]), depths[-1])
            else:
                self.assertIs(kind_of(raised(scene_figure, scene)), errors.InvalidScene if max(depths) > 12 else errors.TooMany)
        self.assertGreater(min(seen.values()), 20)

    def test_names_ahead(self):
        for book in ((("a", A),), (("a", B), ("b", ALL)), (("a", ALL), ("b", C)), (("a", ALL), ("a", ALL)), (("a", ("join", ALL, ("outside", B))),)):
            self.assertIs(is_scene((book, ALL)), False)
            self.assert_given(errors.InvalidScene, scene := (book, ALL), scene_figure, scene)
        for last in (B, ("join", A, B), ("outside", ("outside", C))):
            scene = ((("a", ALL),), last)
            self.assertIs(is_scene(scene), False)
            self.assert_given(errors.InvalidScene, scene, scene_figure, scene)

    def test_twelve_and_thirteen_deep_filled(self):
        for first in range(1, 12):
            book = (("a", nots(DISC, first - 1)), ("b", nots(A, 12 - first)))
            self.assertIs(is_scene((book, B)), True)
            self.assertEqual(depth_of(scene_figure((book, B))), 12)
            self.assertIs(is_scene((book, ("join", A, A))), True)
            for wrong in ((book, nots(B, 1)), (book, ("join", ALL, B)), (book + (("c", ("outside", B)),), ALL), ((book[0], ("b", nots(A, 13 - first))), A)):
                self.assertIs(is_scene(wrong), False)
                self.assert_given(errors.InvalidScene, wrong, scene_figure, wrong)
        # What is too deep is told ahead of what is too much.
        great = ("repeat", 6, ORIGIN, ("repeat", 6, ORIGIN, ("repeat", 6, ORIGIN, SQUARE)))
        wrong = ((("a", great), ("b", nots(A, 8))), B)
        self.assert_much(864, scene_figure, wrong)
        wrong = ((("a", great), ("b", nots(A, 9))), B)
        self.assert_given(errors.InvalidScene, wrong, scene_figure, wrong)

    def test_long_rows_of_names(self):
        book = (("a0", DISC),)
        for k in range(1, 600):
            book += ((f"a{k}", ("name", f"a{k - 1}")),)
        self.assert_plain(scene_figure((book, ("name", "a599"))), DISC)
        twice = (("a0", DISC),)
        for k in range(1, 12):
            twice += ((f"a{k}", ("join", ("name", f"a{k - 1}"), ("name", f"a{k - 1}"))),)
        self.assertIs(is_scene((twice[:8], ("name", "a7"))), True)
        self.assert_much(256, scene_figure, (twice, ("name", "a0")))
        self.assert_much(256, scene_figure, (twice[:8], ("join", ("name", "a7"), ("name", "a7"))))
        deeper = (twice + (("b", ("outside", ("name", "a11"))),), ALL)
        self.assert_given(errors.InvalidScene, deeper, scene_figure, deeper)

    def assert_much(self, many, call, *args):
        error = raised(call, *args)
        self.assertIs(kind_of(error), errors.TooMany)
        self.assert_plain(error.given, many)

    def test_too_many(self):
        great, nine = ("repeat", 5, ORIGIN, ("repeat", 5, ORIGIN, ("join", SQUARE, SQUARE))), nine_discs()
        self.assertIs(is_scene(((("a", great), ("b", nine)), A)), True)
        for scene, many in (
            (((("a", great),), ("join", A, ALL)), 201), (((("a", great), ("b", ("join", A, A))), ALL), 400), (((("a", nine),), ("join", A, LOW)), 10), (((("a", nine), ("b", ("less", LOW, A))), ALL), 10),
            (((("a", nine), ("c", ("join", A, LOW)), ("b", ("repeat", 2, ORIGIN, great))), ALL), 10), (((("b", ("repeat", 2, ORIGIN, great)), ("a", nine), ("c", ("join", A, LOW))), ALL), 400),
            (((), ("repeat", 2, ORIGIN, great)), 400), (((("a", nine),), ("join", ("repeat", 5, ORIGIN, ("repeat", 5, ORIGIN, A)), half(1, 0, 9))), 226), (((), ("join", ("repeat", 6, (TWO, ONE), nine), great)), 254),
        ):
            self.assertIs(is_scene(scene), False)
            self.assert_much(many, scene_figure, scene)


def deep(sketch):
    parts = sketch[1:] if sketch[0] in ("join", "less", "common") else sketch[-1:] if sketch[0] in ("outside", "led", "repeat") else ()
    return 1 + max([deep(part) for part in parts], default=0)


class Values(Told, unittest.TestCase):
    def test_whatever_they_are(self):
        """Each part of a scene exchanged for other values: True exactly if all of it is right."""
        scene = ((("a", BOWL), ("b", ("less", A, NONE))), ("join", B, A))
        self.assertIs(is_scene(scene), True)
        for wrong in (None, 7, "a", (), [], {}, set(), b"a", object(), True, ("a",), (DISC,), A, lambda: 0, is_scene, Told):
            for spoilt in (
                wrong, (wrong, ALL), (scene[0], wrong), (scene[0] + (wrong,), A), ((wrong,) + scene[0], A), ((("a", wrong),), ALL), ((("a", BOWL, wrong),), ALL), (scene[0], ("join", B, wrong)), (*scene, wrong), [*scene],
                ((("a", ("outside", wrong)),), ALL), (list(scene[0]), ALL), ((("a", ("name", wrong)),), ALL) if wrong != "a" else None,
            ):
                if spoilt not in (((), ALL), (scene[0], A), (scene[0], ("join", B, A)), ((("a", A),), ALL)):
                    self.assertIs(is_scene(spoilt), False, spoilt)
                    self.assert_given(errors.InvalidScene, spoilt, scene_figure, spoilt)
        self.assertIs(is_scene(((), ALL)), True)


if __name__ == "__main__":
    unittest.main()
