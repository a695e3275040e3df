"""What the console answers to lines, right and wrong ones."""

import random
import re
import unittest

from planehall import errors
from planehall.compare import are_apart, is_bounded, is_empty, is_same, is_within
from planehall.console import run
from planehall.letters import letters
from planehall.meaning import telling
from planehall.models import Model
from planehall.printer import sketch_text
from planehall.reader import read_sketch
from tests.helpers import STRAY, Told, kind_of, pair, raised
from tests.oracle import fraction

A = "a = disc(0, 0; 1)"


def answers(*lines):
    return list(run(lines))


def last(*lines):
    return run(lines)[-1]


class Lines(Told, unittest.TestCase):
    def test_what_is_no_tuple(self):
        for wrong in [value for value in STRAY if not isinstance(value, tuple)] + [["names"], "names", 0, {"names": 1}, {"names"}]:
            for error in (raised(run, wrong), raised(run, lines=wrong)):
                self.assertIs(kind_of(error), errors.InvalidLines)
                self.assertIs(error.index, None)

    def test_the_first_that_is_no_string(self):
        for wrong in [value for value in STRAY if not isinstance(value, str)] + [b"names", ["names"], ("names",), 0, 1]:
            for k in range(3):
                lines = ("names", "a = |", "b = all")[:k] + (wrong,) + ("names", wrong)
                for error in (raised(run, lines), raised(run, lines=lines)):
                    self.assertIs(kind_of(error), errors.InvalidLines)
                    self.assert_plain(error.index, k)

    def test_a_new_model_for_each_call(self):
        self.assert_plain(run(()), ())
        self.assert_plain(run((A, "names")), ("done", "a"))
        self.assert_plain(run(("names", "undo")), ("", "? NothingToUndo"))

    def test_an_answer_for_each_line(self):
        chance = random.Random(111)
        lines = tuple(chance.choice(("", " ", "names", "a = |", A, "x y", "undo", "redo", "strike a")) for _ in range(200))
        found = run(lines)
        self.assertEqual(len(found), 200)
        self.assertEqual({kind_of(answer) for answer in found}, {str})
        for k in (0, 1, 50, 199):
            self.assertEqual(run(lines[:k]), found[:k])

    def test_lines_of_spaces_alone(self):
        self.assertEqual(answers("", " ", " " * 50), ["", "", ""])
        # Only spaces are spaces.
        self.assertEqual(answers("\n", "\t", " \n ", "\tnames", "names\n"), ["?"] * 5)

    def test_spaces_between_and_at_both_ends(self):
        self.assertEqual(answers("   a   =   disc(0,0;1)   ", "  names  ", " at   a  0    0 ", "show   a", " undo ", "  redo"), [
            "done", "a", "in", "disc(0, 0; 1)", "done", "done"])
        self.assertEqual(answers(A, "ata 0 0", "a t a 0 0", "at a 0 0 0", "at a 0", "names a", "na mes"), ["done"] + ["?"] * 6)


class Puts(Told, unittest.TestCase):
    def test_right_ones(self):
        self.assertEqual(answers("a=all", "b = a|a", "c = not b # remark = more", "names", "show c", "whole c", "b = none", "whole c"), [
            "done", "done", "done", "a b c", "not b", "not (all | all)", "done", "not none"])

    def test_names_go_first(self):
        for line, answer in (
            ("=", "? InvalidName "), (" = ", "? InvalidName "), ("= all", "? InvalidName "), ("=all=", "? InvalidName "), ("A = all", "? InvalidName A"),
            ("a b = all", "? InvalidName a b"), ("a  b = |", "? InvalidName a  b"), ("box = all", "? InvalidName box"), ("let = ", "? InvalidName let"),
            ("1 = |", "? InvalidName 1"), ("x" * 25 + " = all", "? InvalidName " + "x" * 25), ("# a = all", "? InvalidName # a"),
            ("\ta = all", "? InvalidName \ta"), ("let a = all", "? InvalidName let a"), ("names = 1", "? BadText 8"), ("undo = all", "done"),
            ("x" * 24 + " = all", "done"),
        ):
            self.assertEqual(last(line), answer, line)

    def test_spots_are_counted_in_the_line(self):
        for line, spot in (
            ("a =", 3), ("a = ", 4), ("a=", 2), ("a == all", 3), ("a = b = c", 6), ("a = all = ", 8), ("  a  =  |", 8), ("a = c |", 7), ("a = b b", 6), ("a = half(1, 0, 0", 16),
            ("a = disc(0, 0; 0)", 4), ("   a=   move(1/0, 0) all", 13), ("a = all # = \n |", 15), ("a = box(1, 1; 0, 0)", 4), ("a = repeat(7; 1, 0) all", 4),
            ("a = half(0, 0, 1)", 4), ("a = half(1, 1/0, 0)", 12), ("a = all;", 7), ("a = let b = all; b", 4),
            # Of several words that make what is too deep the first one counts.
            ("a = " + "not " * 13 + "all", 4), ("a = " + "not " * 12 + "all", 4), ("a = all | " + "not " * 11 + "all", 8),
        ):
            self.assertEqual(last(line), f"? BadText {spot}", line)
            self.assertEqual(last("b = all", line), f"? BadText {spot}", line)

    def test_what_the_model_says(self):
        self.assertEqual(last("a = b"), "? UnknownName b")
        self.assertEqual(last("a = a"), "? ComesRound a")
        self.assertEqual(last("a = b & c"), "? UnknownName b")
        self.assertEqual(last("b = all", "a = not b", "b = a"), "? ComesRound b")
        self.assertEqual(last("a = " + "not " * 11 + "all", "b = not a"), "? TooDeep b")
        self.assertEqual(last("b = all", "a = not not b", "b = " + "not " * 10 + "all"), "? TooDeep a")
        self.assertEqual(last("a = " + "repeat(6; 0, 0) " * 3 + "disc(0, 0; 1)"), "? TooMany 216")
        self.assertEqual(last("a = repeat(5; 1, 0) box(0, 0; 1, 1)", "b = a | move(0, 3/2) a"), "? TooMany 10")
        # Nothing is changed by what is answered so.
        self.assertEqual(answers(A, "a = b", "a = |", "show a", "undo", "undo"), [
            "done", "? UnknownName b", "? BadText 4", "disc(0, 0; 1)", "done", "? NothingToUndo"])

    def test_whole_numbers_of_errors_have_no_noughts_ahead(self):
        self.assertEqual(last(A, "letters a 0 0 1 1 049"), "? InvalidCount 49")
        self.assertEqual(last(A, "letters a 0 0 1 1 000"), "? InvalidCount 0")
        self.assertEqual(last(A, "letters a 0 0 1 1 " + "0" * 390 + "1234567890"), "? InvalidCount 1234567890")
        self.assertEqual(last(A, "letters a 0 0 1 1 " + "9" * 400), "? InvalidCount " + "9" * 400)


class Commands(Told, unittest.TestCase):
    def test_steps(self):
        self.assertEqual(answers(A, "b = not a", "rename a c", "names", "show b", "strike c", "strike b", "names", "undo", "names", "redo", "names", "redo", "undo", "undo", "undo", "undo", "undo"), [
            "done", "done", "done", "b c", "not c", "? InUse b", "done", "c", "done", "b c", "done", "c", "? NothingToRedo", "done", "done", "done", "done", "? NothingToUndo"])
        self.assertEqual(last(A, "undo", "b = all", "redo"), "? NothingToRedo")

    def test_names_of_commands(self):
        for line, answer in (
            ("rename a 1", "? InvalidName 1"), ("rename 1 2", "? InvalidName 1"), ("rename z y", "? UnknownName z"), ("rename a b", "? NameTaken b"),
            ("rename a a", "? NameTaken a"), ("rename z a", "? UnknownName z"), ("rename box a", "? InvalidName box"), ("strike z", "? UnknownName z"), ("strike Z", "? InvalidName Z"),
            ("strike a", "? InUse b"), ("show z", "? UnknownName z"), ("show not", "? InvalidName not"), ("whole z", "? UnknownName z"), ("whole " + "x" * 25, "? InvalidName " + "x" * 25),
            ("at z 0 0", "? UnknownName z"), ("at A 0 0", "? InvalidName A"), ("empty z", "? UnknownName z"), ("empty ?", "? InvalidName ?"), ("bounded z", "? UnknownName z"),
            ("same z y", "? UnknownName z"), ("same a y", "? UnknownName y"), ("same y 1", "? UnknownName y"), ("same 1 y", "? InvalidName 1"), ("same a 1", "? InvalidName 1"),
            ("within a y", "? UnknownName y"), ("apart y a", "? UnknownName y"), ("letters z 0 0 1 1 1", "? UnknownName z"), ("letters all 0 0 1 1 99", "? InvalidName all"),
            ("letters z 0 0 0 0 99", "? UnknownName z"), ("names", "a b"), ("undo undo", "?"),
        ):
            self.assertEqual(last(A, "b = not a", line), answer, line)

    def test_yes_and_no(self):
        model = (A, "b = a & half(0, 1, 0)", "c = half(0, 1, 0)", "d = a - a", "e = b | (a - c)", "f = move(2, 0) a")
        for line, answer in (
            ("empty a", "no"), ("empty d", "yes"), ("bounded a", "yes"), ("bounded c", "no"), ("bounded d", "yes"), ("same a e", "yes"), ("same a b", "no"), ("same a a", "yes"),
            ("within b a", "yes"), ("within a b", "no"), ("within d b", "yes"), ("apart a f", "yes"), ("apart a b", "no"), ("apart d a", "yes"),
        ):
            self.assertEqual(last(*model, line), answer, line)

    def test_curves_of_both_together(self):
        model = ("a = repeat(5; 1, 0) disc(0, 0; 1)", "b = repeat(5; 0, 2) move(0, 1) a", "b = repeat(5; 0, 2) move(0, 1) disc(0, 0; 1)")
        self.assertEqual(answers(*model)[1], "? TooMany 25")
        for word in ("same", "within", "apart"):
            self.assertEqual(last(*model, f"{word} a b"), "? TooMany 10")

    def test_at(self):
        for x, y, answer in (
            ("0", "0", "in"), ("1", "0", "rim"), ("-1", "0", "rim"), ("-1/2", "1/2", "in"), ("2/2", "00/5", "rim"), ("-0", "-0/3", "in"), ("3/5", "-4/5", "rim"), ("1", "1/" + "9" * 400, "out"),
            ("007", "0", "out"), ("9" * 400, "-" + "9" * 400 + "/" + "9" * 400, "out"), ("0" * 399 + "1", "0/0001", "rim"), ("6/10", "-8/10", "rim"),
        ):
            self.assertEqual(last(A, f"at a {x} {y}"), answer, (x, y))
            self.assertEqual(last(A, f"at b {x} {y}"), "? UnknownName b")

    def test_wrong_numbers_whatever_the_names(self):
        for wrong in (
            "1/0", "0/0", "1/00", "-1/0", "1/", "/1", "/", "-", "--1", "1/-1", "+1", "1.5", "1/2/3", "a", "1a", "a1", "1/a", "1,2", "(1)", "\u0661", "1e2", "1_0", "0x1", "1\n", "#", "\u00b2",
            "9" * 401, "1/" + "9" * 401, "-" + "0" * 401, "1/" + "0" * 400 + "1", "1/" + "0" * 400, "-1/2-", "1 /2", "1/ 2", "- 1",
        ):
            for name in ("a", "z", "A", "box"):
                for line in (
                    f"at {name} {wrong} 0", f"at {name} 0 {wrong}", f"letters {name} {wrong} 0 1 1 1", f"letters {name} 0 {wrong} 1 1 1", f"letters {name} 0 0 {wrong} 1 1",
                    f"letters {name} 0 0 1 {wrong} 1", f"letters {name} 0 0 1 1 {wrong}",
                ):
                    self.assertEqual(last(A, line), "?", line)
        for wrong in ("-1", "1/1", "-0", "01/1"):
            self.assertEqual(last(A, f"letters a 0 0 1 1 {wrong}"), "?")

    def test_letters(self):
        self.assertEqual(last(A, "letters a -1 -1 1 1 2"), "##\n##")
        self.assertEqual(last(A, "letters a -1 -1 1 1 4"), ".##.\n####\n####\n.##.")
        self.assertEqual(last(A, "letters a 0 0 2 2 1"), ".")
        self.assertEqual(last(A, "letters a 0/5 -1/1 2 1 01"), "+")
        self.assertEqual(len(last(A, "letters a -1 -1 1 1 48")), 48 * 49 - 1)
        for line, answer in (
            ("letters a 0 0 0 1 1", "? InvalidPoint"), ("letters a 0 0 1 0 1", "? InvalidPoint"), ("letters a 0 0 -1 -1 99", "? InvalidPoint"), ("letters a 0 0 1 1 0", "? InvalidCount 0"),
            ("letters a 0 0 1 1 49", "? InvalidCount 49"), ("letters a 0 0 1 1", "?"), ("letters a 0 0 1 1 1 1", "?"), ("letters a", "?"), ("letters", "?"), ("letters a 1", "?"),
        ):
            self.assertEqual(last(A, line), answer, line)

    def test_what_is_no_command(self):
        for line in (
            "draw a", "a", "?", "Names", "NAMES", "name", "put a all", "rename a", "rename", "rename a b c", "strike", "strike a b", "undo 1", "redo a", "show", "show a a", "whole", "at", "at a",
            "empty", "empty a a", "bounded", "same a", "same a a a", "within a", "apart a", "same", "steps", "book", "# names", "names # all", "disc(0, 0; 1)", "yes", "not a", "undo;", "rim a 0 0",
        ):
            self.assertEqual(last(A, line), "?", line)
            self.assertEqual(last(line), "?", line)

    def test_texts(self):
        self.assertEqual(answers(A, "b = (a | all) & not move(1/2,-3) a", "show b", "whole b", "show a", "whole a"), [
            "done", "done", "(a | all) & not move(1/2, -3) a", "(disc(0, 0; 1) | all) & not move(1/2, -3) disc(0, 0; 1)", "disc(0, 0; 1)", "disc(0, 0; 1)"])


NUMBER = re.compile(r"(-?)([0-9]{1,400})(?:/(0*[1-9][0-9]*))?")


class Plain:
    """A console that says what each line does in the words of the document, for lines with small numbers."""

    def __init__(self):
        self.model = Model()

    def answer(self, line):
        try:
            return self.told(line)
        except errors.PlaneError as error:
            for told in vars(error).values():
                if kind_of(told) in (str, int):
                    return f"? {kind_of(error).__name__} {told}"
            return f"? {kind_of(error).__name__}"

    def told(self, line):
        if set(line) <= {" "}:
            return ""
        model = self.model
        if "=" in line:
            at = line.index("=")
            name = line[:at].strip(" ")
            # An unknown name is told only of a free one: the others are wrong by themselves.
            wrong = raised(model.uses, name)
            if isinstance(wrong, errors.InvalidName):
                raise wrong
            try:
                sketch = read_sketch(line[at + 1:])
            except errors.BadText as error:
                raise errors.BadText(error.spot + at + 1)
            model.put(name, sketch)
            return "done"
        word, *rest = line.split()
        many = {"undo": 0, "redo": 0, "names": 0, "strike": 1, "show": 1, "whole": 1, "empty": 1, "bounded": 1, "rename": 2, "same": 2, "within": 2, "apart": 2, "at": 3, "letters": 6}
        if many.get(word) != len(rest):
            return "?"
        if word in ("undo", "redo", "strike", "rename"):
            getattr(model, word)(*rest)
            return "done"
        if word == "names":
            return " ".join(model.names())
        if word == "show":
            return sketch_text(model.sketch(rest[0]))
        if word in ("at", "letters"):
            matches = [NUMBER.fullmatch(part) for part in rest[1:]]
            if None in matches or (word == "letters" and not rest[-1].isdigit()):
                return "?"
            numbers = [pair(fraction((int(sign + top), int(bottom or 1)))) for sign, top, bottom in (match.groups() for match in matches)]
            figure = model.figure(rest[0])
            if word == "at":
                return telling(figure, tuple(numbers))
            return "\n".join(letters(figure, tuple(numbers[:2]), tuple(numbers[2:4]), int(rest[-1])))
        figures = [model.figure(name) for name in rest]
        if word == "whole":
            return sketch_text(figures[0])
        return "yes" if {"empty": is_empty, "bounded": is_bounded, "same": is_same, "within": is_within, "apart": are_apart}[word](*figures) else "no"


TEXTS = (
    "all", "none", "disc(0, 0; 1)", "half(0, 1, 0)", "a", "b", "c", "a | b", "a & b", "a - b", "not a", "not c", "move(1, 0) a", "repeat(2; 2, 0) b", "c - (a | b)", "|", "a |", "disc(0, 0; 0)",
    "d", "(a", "box(0, 0; 1, 1)", "half(1/0, 0, 0)", "not not not b", "turn(1, 1) c", "a = b", "", "repeat(6; 1, 1) a | b",
)
NUMBERS = ("0", "1", "-1", "0", "1", "-1", "0", "1/2", "-3/4", "2/0", "x", "007", "2", "-2")


def some_line(chance):
    names = ("a", "b", "c", "d", "a", "b", "c", "e1", "A", "box")
    kind = chance.random()
    if kind < 0.35:
        space = " " * chance.choice((0, 1, 1, 3))
        return space + chance.choice(names) + space + "=" + space + chance.choice(TEXTS) + space
    word = chance.choice(("undo", "redo", "names", "strike", "show", "whole", "empty", "bounded", "rename", "same", "within", "apart", "at", "at", "letters", "draw", ""))
    many = {"undo": 0, "redo": 0, "names": 0, "rename": 2, "same": 2, "within": 2, "apart": 2}.get(word, 1)
    words = [word] + [chance.choice(names) for _ in range(many)]
    if word == "at":
        words += [chance.choice(NUMBERS) for _ in range(2)]
    if word == "letters":
        words += ["-1", "-1", chance.choice(NUMBERS), chance.choice(NUMBERS), chance.choice(("1", "3", "0", "49", "02", "-1"))]
    if chance.random() < 0.05:
        words.append(chance.choice(words))
    return chance.choice(("", "", " ")) + (" " * chance.choice((1, 1, 2))).join(words) + chance.choice(("", "", "  "))


class ManyLines(Told, unittest.TestCase):
    def test_against_a_plain_console(self):
        chance = random.Random(112)
        seen = {}
        for _ in range(150):
            ahead = (A, "b = half(0, 1, 0)", "c = a | move(1, 0) b") * chance.randint(0, 1)
            lines = ahead + tuple(some_line(chance) for _ in range(60))
            plain = Plain()
            wanted = tuple(plain.answer(line) for line in lines)
            self.assert_plain(run(lines), wanted)
            for answer in wanted:
                key = " ".join(answer.split()[:2]) if answer.startswith("? ") else answer
                key = key.rstrip("0123456789") if answer.startswith("? ") else key
                seen[key.split(" ")[-1]] = seen.get(key.split(" ")[-1], 0) + 1
        for word in ("done", "yes", "no", "in", "out", "rim", "?", "UnknownName", "BadText", "InvalidName", "ComesRound", "NameTaken", "InUse", "NothingToUndo", "NothingToRedo", "InvalidPoint"):
            self.assertGreater(seen.get(word, 0), 2, word)


if __name__ == "__main__":
    unittest.main()
