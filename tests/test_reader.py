"""Texts read as sketches, scenes, books and figures, and where they are wrong ([28] to [30])."""

import random
import unittest

from planehall import errors
from planehall.leads import mirror, turn
from planehall.printer import sketch_text
from planehall.reader import read_book, read_figure, read_scene, read_sketch
from planehall.sketches import is_scene, is_sketch, scene_figure
from tests.grammar import KEPT, Machine, Writer, depth_of_tree, is_digits, sketch_of, some_tree, split, wrong_spot
from tests.helpers import HALF, MINUS, NIL, ONE, TWO, Told, kind_of, line, raised
from tests.oracle import ALL, DISC, LOW, NONE, SQUARE, WEDGE, box, disc, half, lead, polygon

READERS = {"sketch": read_sketch, "scene": read_scene, "book": read_book}
ORIGIN = (NIL, NIL)
A, B, C, D = [("name", name) for name in "abcd"]


class Spots(Told):
    def assert_spot(self, spot, call, text):
        for error in (raised(call, text), raised(call, text=text)):
            self.assertIs(kind_of(error), errors.BadText, (call, text))
            self.assertIs(kind_of(error.spot), int)
            self.assertEqual(error.spot, spot, (call, text))

    def assert_at(self, call, marked):
        """The spot stands behind the only ^ of the text."""
        spot = marked.index("^")
        self.assert_spot(spot, call, marked.replace("^", ""))


class Sketches(Spots, unittest.TestCase):
    def check(self, text, wanted):
        self.assert_plain(read_sketch(text), wanted)
        self.assert_plain(read_sketch(text=text), wanted)

    def test_atoms(self):
        self.check("all", ALL)
        self.check("none", NONE)
        self.check("a_1", ("name", "a_1"))
        self.check("half(0, 1, 0)", LOW)
        self.check("half(-1/2,3,-0)", half(-1 / 2, 3, 0))
        self.check("disc(0, 0; 1)", DISC)
        self.check("disc(1, -2; 9/4)", disc(1, -2, 9 / 4))
        self.check("box(0, 0; 1, 1)", SQUARE)
        self.check("box(-1, -2; 1/2, 7)", box(-1, -2, 1 / 2, 7))
        self.check("polygon((0, 0), (1, 0), (0, 1))", WEDGE)
        self.check("polygon((0,0),(2,0),(3,1),(2,2),(0,2),(-1,1))", polygon((0, 0), (2, 0), (3, 1), (2, 2), (0, 2), (-1, 1)))
        self.check("(a)", A)
        self.check("(((all)))", ALL)

    def test_numbers(self):
        for text, wanted in (
            ("2/4", HALF), ("-2/4", (-1, 2)), ("0/7", NIL), ("-0", NIL), ("-0/3", NIL), ("007", (7, 1)), ("- 3 / 09", (-1, 3)), ("6/3", TWO), ("000/1", NIL), ("10/4", (5, 2)),
            ("9" * 400, (10 ** 400 - 1, 1)), ("-1/" + "9" * 400, (-1, 10 ** 400 - 1)), ("0" * 399 + "3/" + "0" * 399 + "6", HALF), ("1#\n/#\n2", HALF), ("-\n1", MINUS),
        ):
            self.check(f"half(1, 0, {text})", ("half", ONE, NIL, wanted))
            self.check(f"move({text}, 1) a", ("led", (ONE, NIL, False, (wanted, ONE)), A))

    def test_prefixes(self):
        self.check("not a", ("outside", A))
        self.check("move(1, 2) a", ("led", lead(1, 0, False, 1, 2), A))
        self.check("move(0, 0) a", ("led", lead(1, 0, False, 0, 0), A))
        self.check("scale(-1/2) a", ("led", lead(-1 / 2, 0, False, 0, 0), A))
        self.check("turn(2, 1) a", ("led", turn((TWO, ONE)), A))
        self.check("turn(0, -3) a", ("led", lead(-1, 0, False, 0, 0), A))
        self.check("mirror(1, 0, 1/2) a", ("led", mirror(line(1, 0, 1 / 2)), A))
        self.check("mirror(-3, 4, 5) a", ("led", mirror(line(-3, 4, 5)), A))
        self.check("lead(1, 2; 3, 4) a", ("led", lead(1, 2, False, 3, 4), A))
        self.check("flip(1, 2; 3, 4) a", ("led", lead(1, 2, True, 3, 4), A))
        self.check("flip(0, 1; 0, 0) a", ("led", lead(0, 1, True, 0, 0), A))
        for count in range(1, 7):
            self.check(f"repeat({count}; 1, -1/2) a", ("repeat", count, (ONE, (-1, 2)), A))
            self.check(f"repeat(00{count}; 0, 0) a", ("repeat", count, ORIGIN, A))
        self.check("not not move(1, 0) not a", ("outside", ("outside", ("led", lead(1, 0, False, 1, 0), ("outside", A)))))

    def test_what_binds_closer(self):
        a_or_b, b_and_c = ("join", A, B), ("common", B, C)
        self.check("a | b | c", ("join", a_or_b, C))
        self.check("a | b - c", ("less", a_or_b, C))
        self.check("a - b | c", ("join", ("less", A, B), C))
        self.check("a - b - c", ("less", ("less", A, B), C))
        self.check("a & b & c", ("common", ("common", A, B), C))
        self.check("a | b & c", ("join", A, b_and_c))
        self.check("a & b | c", ("join", ("common", A, B), C))
        self.check("a - b & c - d", ("less", ("less", A, b_and_c), D))
        self.check("a & b - c & d", ("less", ("common", A, B), ("common", C, D)))
        self.check("(a | b) & c", ("common", a_or_b, C))
        self.check("a - (b | c)", ("less", A, ("join", B, C)))
        self.check("a & (b & c)", ("common", A, b_and_c))
        self.check("not a | b", ("join", ("outside", A), B))
        self.check("not a & b", ("common", ("outside", A), B))
        self.check("not (a | b)", ("outside", a_or_b))
        self.check("a & not b & c", ("common", ("common", A, ("outside", B)), C))
        self.check("move(1, 0) a - b", ("less", ("led", lead(1, 0, False, 1, 0), A), B))
        self.check("a-b", ("less", A, B))
        self.check("a&b|c", ("join", ("common", A, B), C))

    def test_blanks_and_remarks(self):
        self.check("\n a # | b\n|#\n\n  c#", ("join", A, C))
        self.check("# only\nall", ALL)
        self.check("disc ( 0 , 0\n; 1 # q\n )", DISC)
        self.check("nota", ("name", "nota"))
        self.check("not(a)", ("outside", A))

    def test_names_as_they_are(self):
        for name in ("a", "nots", "box1", "let_", "x" * 24, "all_", "a0_9"):
            self.check(name, ("name", name))


class Form(Spots, unittest.TestCase):
    def test_of_sketches(self):
        for marked in (
            "^", "  ^", "# all^", "^|", "a ^b", "a | ^| b", "a |^", "a | # b^", "^)", "(^", "(a^", "(a ^b)", "a ^)", "(^)", "^let", "^let a = all; a", "a^;", "a ^= b", "not ^", "not^",
            "not ^| a", "not ^not_all_long_enough_as_a_name", "^1", "^-a", "a -^", "a - ^- b", "a & ^& b", "a & ^| b", "a ^, b", "^A", "a^B", "a ^_", "^_a", "all ^none", "all ^(a)", "a ^(b)", "a^.",
            "half^", "half ^a", "half(^", "half(^a", "half(^)", "half(0^", "half(0 ^1", "half(0,^", "half(0, ^, 1", "half(0, 1^)", "half(0, 1, 0^", "half(0, 1, 0^;", "half(0, 1^; 0)", "half(0, 1, 0^, ",
            "half(0, -^", "half(0, -^- 1", "half(0, 1/^", "half(0, 1/^-2", "half(0, 1/2^/3", "half(0, 1/^a", "disc(0, 0^, 1)", "disc(0^; 0", "box(0, 0^, 1, 1)", "box(0, 0; 1^; 1)", "box(0, 0; 1, 1^, 1)",
            "polygon(^0, 0)", "polygon((0, 0^; 0", "polygon((0, 0)^)", "polygon((0, 0), (1, 0)^)", "polygon((0, 0), ^)", "polygon((0, 0) ^(1, 0)", "polygon((0, 0), (1, 0), (0, 1)^;",
            "polygon((0,0),(1,0),(1,1),(0,1),(2,2),(3,3)^,(4,4))", "polygon((0,0),(1,0),(1,1),(0,1),(2,2),(3,3)^", "move^ a".replace("^ ", " ^"), "move(^a", "move(1^) a", "move(1, 2^; 3) a", "move(1, 2) ^",
            "scale(1^, 2) a", "turn(1^) a", "mirror(1, 2^) a", "mirror(1, 2^; 3) a", "lead(1, 2^, 3, 4) a", "flip(1, 2; 3^) a", "repeat(^-1; 1, 0) a", "repeat(1^, 1, 0) a", "repeat(1^/2; 1, 0) a",
            "repeat(2; 1^) a", "repeat(2; 1, 0)^", "not (a | b^", "((a) | (b)^", "a | (b & c)^) ", "^" + "x" * 25, "a | ^" + "x" * 25, "move(1, 0) ^let a", "a | ^half_" + "x" * 30, "(a | b) ^c",
        ):
            self.assert_at(read_sketch, marked)
            self.assertEqual(wrong_spot("sketch", marked.replace("^", "")), marked.index("^"), marked)

    def test_of_scenes_and_books(self):
        for marked in ("^", "let^", "let ^1", "let ^all = a", "let ^let", "let a^", "let a ^a", "let a =^", "let a = ^;", "let a = all^", "let a = all ^let b", "let a = all;^", "let a = all; ^;", "let a = all; a ^let b = a;"):
            self.assert_at(read_scene, marked)
            self.assert_at(read_figure, marked)
        for marked in ("^a", "let^", "let a^", "let a ^a", "let a =^", "let a = ^;", "let a = all^", "let a = all; ^a", "let a = all; ^;", "let a = all; let b = none^", "let ^" + "x" * 25 + " = all;", "^all", "^;"):
            self.assert_at(read_book, marked)
        for kind in KEPT:
            self.assert_spot(4, read_book, f"let {kind} = all;")

    def test_long_digits_and_names(self):
        for many, is_right in ((400, True), (401, False)):
            for text in ("half(1, 0, {})", "half(1, 0, -{})", "half(1, 0, 1/{})", "half(1, 0, {}/2)"):
                text, spot = text.format("0" * (many - 1) + "1"), text.index("{")
                if is_right:
                    self.assertIs(is_sketch(read_sketch(text)), True)
                else:
                    self.assert_spot(spot, read_sketch, text)
            text = "repeat(" + "0" * (many - 1) + "2; 1, 0) a"
            if is_right:
                self.assertEqual(read_sketch(text)[1], 2)
            else:
                self.assert_spot(7, read_sketch, text)
        self.assert_spot(4, read_book, "let " + "a" * 25 + " = all;")
        self.assertEqual(read_book("let " + "a" * 24 + " = all;"), (("a" * 24, ALL),))

    def test_twenty_four_open(self):
        self.assert_plain(read_sketch("(" * 24 + "a" + ")" * 24), A)
        self.assert_at(read_sketch, "(" * 24 + "^(a)" + ")" * 24)
        self.assert_at(read_sketch, "(" * 24 + "^not a" + ")" * 24)
        for word in ("not ", "move(1, 0) ", "repeat(1; 0, 0) ", "scale(0) "):
            # With 24 of them the form is right, and the first one, that makes what is too deep, is told.
            self.assertIsNone(wrong_spot("sketch", word * 24 + "a"))
            self.assert_at(read_sketch, "^" + word * 24 + "a")
            for last in ("(a)", "not a", "scale(2) a"):
                self.assert_at(read_sketch, word * 24 + "^" + last)
        self.assert_plain(read_sketch("not (" * 11 + "a" + ")" * 11), nots(A, 11))
        self.assert_at(read_sketch, "^" + "not (" * 12 + "a" + ")" * 12)
        self.assert_at(read_sketch, "not (" * 12 + "^(a)" + ")" * 12)
        # Brackets of forms do not count, and what is closed is not open any more.
        self.assertIs(is_sketch(read_sketch("(" * 24 + "half(0, 1, 0)" + ")" * 24)), True)
        self.assertIs(is_sketch(read_sketch("(" * 24 + "polygon((0, 0), (1, 0), (0, 1))" + ")" * 24)), True)
        self.assertEqual(read_sketch("(" * 24 + "a" + ")" * 24 + "|" + "(" * 24 + "b" + ")" * 24), ("join", A, B))
        self.assertEqual(read_sketch("(" * 23 + "not a & not b" + ")" * 23), ("common", ("outside", A), ("outside", B)))
        self.assert_at(read_sketch, "(" * 23 + "not ^(a)" + ")" * 23)
        self.assert_at(read_sketch, "(a) | not b & " + "(" * 24 + "^(c)" + ")" * 24)
        self.assert_at(read_sketch, "((a) | not (b) & " + "(" * 23 + "^not c" + ")" * 24)
        self.assertEqual(read_sketch("(" * 22 + "not (a) | not (b)" + ")" * 22), ("join", ("outside", A), ("outside", B)))
        self.assertEqual(len(read_scene("let a = " + "(" * 24 + "all" + ")" * 24 + ";" + "(" * 24 + "a" + ")" * 24)), 2)

    def test_as_the_machine_tells(self):
        """Texts cut off behind each word, with one word left out, put in or exchanged."""
        chance = random.Random(111)
        for kind in ("sketch", "scene", "book"):
            for _ in range(60):
                text = some_text(chance, kind, 0, chance.randint(1, 4))[0]
                self.assertIsNone(wrong_spot(kind, text), text)
                for spoilt in all_spoilt(chance, text):
                    self.check(kind, spoilt)

    def check(self, kind, text):
        spot = wrong_spot(kind, text)
        if spot is not None:
            self.assert_spot(spot, READERS[kind], text)
        else:
            error = raised(READERS[kind], text)
            self.assertIn(kind_of(error), (type(None), errors.BadText, errors.TooMany))
            if kind_of(error) is errors.BadText:
                self.assertIn(error.spot, [found for found, _ in split(text)])

    def test_of_any_words(self):
        chance = random.Random(112)
        words = "a b all half ( ( ) ) , ; | & - - 1 2 0 / let = not move repeat polygon".split()
        for _ in range(4000):
            machine, text = Machine(["book", "sketch"]), ""
            for _ in range(chance.randint(1, 12)):
                text += chance.choice(words) + " "
            self.assertIsNotNone(machine)
            for kind in READERS:
                self.check(kind, text)


def nots(sketch, many):
    for _ in range(many):
        sketch = ("outside", sketch)
    return sketch


def some_text(chance, kind, wrong=0.0, deep=4):
    """A text of a form, its faults, and what it tells if it has none."""
    writer, rows, depths = Writer(chance, None if kind == "sketch" else {}), [], {}
    names = ["a", "b", "c", "a_1"]
    if kind != "sketch":
        known = []
        for _ in range(chance.randint(0, 3)):
            name = chance.choice(names)
            if name in known and chance.random() >= wrong:
                continue
            tree = some_tree(chance, deep, names if chance.random() < wrong else known, wrong)
            writer.word("let")
            spot = writer.word(name)
            if name in known:
                writer.fault(spot)
            writer.word("=")
            writer.sketch(tree)
            writer.word(";")
            known = known + [name]
            writer.depths.setdefault(name, depth_of_tree(tree, depths))
            depths.setdefault(name, depth_of_tree(tree, depths))
            rows.append((name, tree))
        names = names if chance.random() < wrong else known
    last = None
    if kind != "book":
        last = some_tree(chance, deep, names, wrong)
        writer.sketch(last)
    writer.text += writer.blank()
    if writer.faults:
        return writer.text, writer.faults, None
    book = tuple((name, sketch_of(tree)) for name, tree in rows)
    return writer.text, [], book if kind == "book" else sketch_of(last) if kind == "sketch" else (book, sketch_of(last))


def all_spoilt(chance, text):
    words = [word for _, word in split(text)]
    others = "a | - & ( ) , ; / 0 7 not let all = half move polygon repeat A _".split()
    yield from (" ".join(words[:k]) for k in range(min(40, len(words))))
    for k in chance.sample(range(len(words)), min(12, len(words))):
        yield " ".join(words[:k] + words[k + 1:])
        for other in chance.sample(others, 3):
            yield " ".join(words[:k] + [other] + words[k:])
            yield " ".join(words[:k] + [other] + words[k + 1:])


class Whole(Spots, unittest.TestCase):
    def test_texts_without_faults(self):
        chance = random.Random(113)
        for kind in READERS:
            for _ in range(250):
                text, faults, wanted = some_text(chance, kind)
                if faults:
                    # It is too deep with its names filled.
                    self.assert_spot(min(faults), READERS[kind], text)
                    continue
                error = raised(READERS[kind], text)
                if kind_of(error) is errors.TooMany:
                    self.assertIs(is_scene((wanted, ALL) if kind == "book" else wanted), False)
                else:
                    self.assert_plain(READERS[kind](text), wanted)

    def test_the_first_of_the_faults(self):
        chance = random.Random(114)
        many = {0: 0, 1: 0, 2: 0}
        for kind in READERS:
            for wrong in (0.05, 0.2, 0.6):
                for deep in (2, 4, 6):
                    for _ in range(60):
                        text, faults, _ = some_text(chance, kind, wrong, deep)
                        self.assertIsNone(wrong_spot(kind, text), text)
                        many[min(2, len(faults))] += 1
                        if faults:
                            self.assert_spot(min(faults), READERS[kind], text)
        self.assertGreater(min(many.values()), 100)

    def test_texts_too_deep(self):
        chance = random.Random(115)
        seen = 0
        for kind in READERS:
            for _ in range(60):
                text, faults, _ = some_text(chance, kind, 0.01, 16)
                if wrong_spot(kind, text) is None and faults:
                    self.assert_spot(min(faults), READERS[kind], text)
                    seen += 1
        self.assertGreater(seen, 30)


class Faults(Spots, unittest.TestCase):
    def test_each_alone(self):
        for marked in (
            "half(^1/0, 0, 0)", "half(1, ^-1/00, 0)", "half(1, 0, ^0/0)", "^half(0, 0, 1)", "^half(0/5, -0, 7)", "^disc(0, 0; 0)", "^disc(0, 0; -1)", "disc(0, 0; ^- 1/0)", "^box(0, 0; 0, 1)", "^box(0, 0; 1, 0)",
            "^box(1, 1; 0, 0)", "^polygon((0, 0), (0, 1), (1, 0))", "^polygon((0, 0), (1, 0), (2, 0))", "^polygon((0,0),(1,0),(1,1),(0,0))", "polygon((0, 0), (1, 0), (0, ^1/0))", "^scale(0) a", "^scale(0/3) a",
            "^turn(0, 0) a", "^mirror(0, 0, 1) a", "^lead(0, 0; 1, 1) a", "^flip(0, 0; 0, 0) a", "^repeat(0; 1, 0) a", "^repeat(7; 1, 0) a", "^repeat(0010; 1, 0) a", "move(^1/0, 0) a", "scale(^1/0) a", "turn(0, ^1/0) a",
            "mirror(0, 0, ^1/0) a", "lead(0, 0; ^1/0, 1) a", "repeat(2; 1, ^1/0) a", "repeat(2; ^-0/0, 1) a", "a | ^half(0, 0, 0)", "a & (b - move(^2/0, 1) c)", "not not ^scale(0) a", "all # half(1/0\n | ^disc(1, 1; 0)",
            "^repeat(" + "9" * 400 + "; 1, 0) a",
        ):
            self.assert_at(read_sketch, marked)
            for call in (read_scene, read_figure):
                spot = marked.index("^") + 20
                text = "let a=all;let b=a;  " + marked.replace("^", "").replace("c)", "b)")
                self.assert_spot(spot, call, text)
            spot = marked.index("^") + 27
            self.assert_spot(spot, read_book, "let a=all;let b=a;let d =  " + marked.replace("^", "").replace("c)", "b)") + ";")

    def test_names(self):
        for marked in (
            "^a", "let a = ^a; a", "let a = all; let ^a = none; a", "let a = ^b; let b = all; a", "let a = all; ^b", "let a = all; a | ^b | ^c".replace("^c", "c"), "let a = all; let b = a | not ^c; b", "let a = all; let ^a = b; a",
            "let a = all; let b = a; let ^a = all; c", "let a = all; let b = a; let c = a & b; move(1, 0) (c | ^d)", "let a = ^c; let c = a; c",
        ):
            self.assert_at(read_scene, marked)
            self.assert_at(read_figure, marked)
        for marked in ("let a = ^a;", "let a = ^b; let b = all;", "let a = all; let ^a = all;", "let a = all; let b = a | ^c;", "let a = all; let ^a = a; let b = c;"):
            self.assert_at(read_book, marked)
        # A sketch read alone may have any names.
        self.assertEqual(read_sketch("a | b"), ("join", A, B))

    def test_two_in_either_order(self):
        parts = (
            "^half(0, 0, 0)", "half(^1/0, 0, 0)", "disc(0, 0; ^1/0)", "^box(0, 0; 0, 0)", "^polygon((0, 0), (0, 1), (1, 0))", "^scale(0) all", "^turn(0, 0) all", "^repeat(9; 0, 0) all", "^x", "move(0, ^1/0) all", "^flip(0, 0; 1, 1) all",
        )
        for first in parts:
            for second in parts:
                for sign in "|-&":
                    self.assert_at(read_scene, f"let a = all; {first} {sign} {second.replace('^', '')}")
                    self.assert_at(read_book, f"let a = all {sign} {first}; let a = {second.replace('^', '')};")
                    self.assert_at(read_scene, f"let b = {first}; let b = {second.replace('^', '')}; {second.replace('^', '')}")
        # What stands ahead in the text is told, though it encloses the other fault.
        self.assert_at(read_sketch, "^scale(0) half(1/0, 0, 0)")
        self.assert_at(read_sketch, "scale(^1/0) half(0, 0, 0)")
        self.assert_at(read_sketch, "^repeat(0; 1, 0) move(1/0, 0) half(0, 0, 0)")

    def test_counts_and_numbers_of_a_repeat(self):
        # All own numbers are to be right before a word is wrong: then the number is told.
        self.assert_at(read_sketch, "repeat(7; ^1/0, 0) a")
        self.assert_at(read_sketch, "repeat(0; 1, ^1/0) a")
        self.assert_at(read_sketch, "half(0, 0, ^1/0)")
        self.assert_at(read_sketch, "disc(^1/0, 0; 0)")
        self.assert_at(read_sketch, "box(1, 1; 0, ^0/0)")

    def test_the_form_goes_first(self):
        for marked in ("half(1/0, 0, 0^", "half(0, 0, 0) |^", "scale(0) ^", "a | repeat(9; 1/0, 0) ^)", "not " * 13 + "^"):
            self.assert_at(read_sketch, marked)
        for marked in ("let a = b; half(1/0, 0, 0^", "let a = a; let a = a;^", "b | half(0, 0, 0)^;", "let a = " + "not " * 13 + "a; a ^a"):
            self.assert_at(read_scene, marked)

    def test_twelve_and_thirteen_deep(self):
        for word in ("not ", "move(1, 0) ", "repeat(1; 0, 0) ", "flip(0, 1; 0, 0) "):
            self.assertIs(is_sketch(read_sketch(word * 11 + "a")), True)
            self.assert_spot(0, read_sketch, word * 12 + "a")
            self.assert_spot(0, read_sketch, word * 13 + "a")
            self.assert_spot(3, read_sketch, " ( " + word * 12 + "a )")
        for sign in "|-&":
            self.assertIs(is_sketch(read_sketch(f" {sign} ".join("a" * 12))), True)
            # The sign that makes it too deep is the twelfth one.
            self.assert_spot(4 * 11 + 2, read_sketch, f" {sign} ".join("a" * 13))
            self.assert_spot(4 * 11 + 2, read_sketch, f" {sign} ".join("a" * 40))
            # Put to the right the first one makes what is deepest.
            right = "a"
            for _ in range(12):
                right = f"a {sign} ({right})"
            self.assert_spot(2, read_sketch, right)
            self.assertIs(is_sketch(read_sketch(right[5:-1])), True)
        self.assert_at(read_sketch, "not not not a ^| (b & " + "not " * 11 + "c)")
        self.assert_at(read_sketch, "half(0, 1, 0) ^| " + "not " * 11 + "half(0, 0, 0)")
        self.assert_at(read_sketch, "^half(0, 0, 0) | " + "not " * 11 + "half(1/0, 0, 0)")
        self.assert_at(read_sketch, "a ^| (b | " + "not " * 10 + "half(0, 0, 1/0))")
        self.assert_at(read_sketch, "^" + "not " * 12 + "repeat(9; 0, 0) half(1/0, 0, 0)")
        # In brackets it is as deep as without.
        self.assertIs(is_sketch(read_sketch("(" * 12 + "not " * 11 + "a" + ")" * 12)), True)

    def test_deep_with_names_filled(self):
        six, five = "not " * 6, "not " * 5
        self.assertEqual(len(read_book(f"let a = {five}all; let b = {six}a;")), 2)
        self.assert_at(read_book, f"let a = {six}all; let b = ^{six}a;")
        self.assert_at(read_book, f"let a = {six}all; let b = all ^| {five}a;")
        self.assert_at(read_scene, f"let a = {six}all; let b = {five}a; a ^| b | a")
        self.assert_at(read_scene, f"let a = {six}all; let b = {five}a; ^not b")
        self.assert_plain(read_scene(f"let a = {six}all; let b = {five}a; b")[1], B)
        self.assert_plain(read_scene("let a = all; " + f"let b = a; let c = b; {'not ' * 11}c")[1], nots(C, 11))
        # What is undefined is one deep; but then the name itself is wrong.
        self.assert_at(read_scene, "not " * 11 + "^a")
        self.assert_at(read_scene, "^" + "not " * 12 + "a")
        self.assert_at(read_scene, f"let a = {six}^b; not a")
        # Of a name defined twice the first one counts: up to there nothing is too deep.
        self.assert_at(read_scene, f"let a = all; let ^a = {six}{six}a; {six}a")
        self.assert_at(read_book, f"let a = ^{six}{six}all; let b = {six}a;")
        # In a sketch read alone names are one deep.
        self.assertIs(is_sketch(read_sketch("not " * 11 + "a")), True)

    def test_too_much_goes_last(self):
        great = "repeat(6; 0, 0) repeat(6; 0, 0) box(0, 0; 1, 1)"
        ten = " | ".join(f"disc({k}, 0; 1)" for k in range(10))
        nine = " | ".join(f"disc({k}, 0; 1)" for k in range(9))
        for call, text, many in (
            (read_scene, f"{great} | ({great} - {great})", 432), (read_scene, f"let a = {great}; repeat(2; 0, 0) a", 288), (read_scene, ten, 10), (read_scene, f"let a = {ten}; all", 10),
            (read_scene, f"let a = {nine}; let b = half(1, 0, 0) | a; a", 10), (read_scene, f"let a = {great} | {great}; {ten}", 288), (read_scene, f"let a = {ten}; {great} | {great}", 10),
            (read_book, f"let a = {great}; let b = a | a;", 288), (read_book, f"let a = {nine}; let b = a | half(0, 1, 0);", 10), (read_figure, f"let a = {great}; a | a", 288), (read_figure, ten, 10),
            (read_scene, f"let a = {great}; a | a | a", 432),
        ):
            for error in (raised(call, text), raised(call, text=text)):
                self.assertIs(kind_of(error), errors.TooMany, text)
                self.assert_plain(error.given, many)
        self.assert_spot(len(f"let a = {great} | {great}; "), read_scene, f"let a = {great} | {great}; b")
        self.assert_spot(len(f"let a = {ten}"), read_book, f"let a = {ten}")
        self.assertEqual(len(read_scene(f"let a = {nine}; a | a | a")[0]), 1)
        self.assertIs(is_sketch(read_sketch(f"{great} | {great}")), True)
        self.assertIs(is_sketch(read_sketch(ten)), True)

    def test_size_200_and_201(self):
        text = "let a = repeat(5; 0, 0) box(0, 0; 1, 1); let b = repeat(5; 0, 0) (a | a); "
        self.assertEqual(len(read_scene(text + "b")[0]), 2)
        error = raised(read_scene, text + "b | all")
        self.assertIs(kind_of(error), errors.TooMany)
        self.assertEqual(error.given, 201)
        self.assertEqual(len(read_book(text)), 2)


class Scenes(Spots, unittest.TestCase):
    def test_by_hand(self):
        self.assert_plain(read_scene("all"), ((), ALL))
        self.assert_plain(read_scene("let a = all; a"), ((("a", ALL),), A))
        self.assert_plain(read_scene("let b = half(0, 1, 0);let a = b & disc(0,0;1);a - b"), ((("b", LOW), ("a", ("common", B, DISC))), ("less", A, B)))
        self.assert_plain(read_book(""), ())
        self.assert_plain(read_book(" # nothing\n"), ())
        self.assert_plain(read_book("let a = all;\nlet b = not a;\n"), (("a", ALL), ("b", ("outside", A))))
        self.assert_plain(read_figure("let b = half(0, 1, 0);let a = b & disc(0,0;1);a - b"), ("less", ("common", LOW, DISC), LOW))
        self.assert_plain(read_figure("none"), NONE)

    def test_figures_are_those_of_scenes(self):
        chance = random.Random(116)
        for _ in range(150):
            text, faults, wanted = some_text(chance, "scene", 0, 3)
            self.assertEqual(faults, [])
            if is_scene(wanted):
                self.assert_plain(read_figure(text), scene_figure(wanted))
                self.assert_plain(read_figure(text=text), scene_figure(read_scene(text)))
            else:
                self.assertIs(kind_of(raised(read_figure, text)), errors.TooMany)

    def test_what_was_read_is_a_sketch_or_scene(self):
        chance = random.Random(117)
        for _ in range(150):
            text, _, wanted = some_text(chance, "sketch")
            self.assertIs(is_sketch(read_sketch(text)), True)
            self.assert_plain(read_sketch(sketch_text(wanted)), wanted)
        self.assertIs(is_digits("0" * 401), False)


if __name__ == "__main__":
    unittest.main()
