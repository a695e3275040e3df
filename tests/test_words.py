"""Words of texts, free names, fractions as texts ([27], [31])."""

import random
import unittest

from planehall.words import fraction_text, is_free_name, words_of
from tests.grammar import KEPT, split
from tests.helpers import Told


class Words(Told, unittest.TestCase):
    def check(self, text, *wanted):
        self.assert_plain(words_of(text), tuple(wanted))
        self.assertEqual(split(text), list(wanted))

    def test_by_hand(self):
        self.check("")
        self.check(" \n  \n")
        self.check("a", (0, "a"))
        self.check("ab12_c", (0, "ab12_c"))
        self.check("12ab", (0, "12"), (2, "ab"))
        self.check("007 8", (0, "007"), (4, "8"))
        self.check("_a", (0, "_"), (1, "a"))
        self.check("__", (0, "_"), (1, "_"))
        self.check("aB", (0, "a"), (1, "B"))
        self.check("ABc", (0, "A"), (1, "B"), (2, "c"))
        self.check("a_B_1", (0, "a_"), (2, "B"), (3, "_"), (4, "1"))
        self.check("-1/2", (0, "-"), (1, "1"), (2, "/"), (3, "2"))
        self.check("|&--;,()", (0, "|"), (1, "&"), (2, "-"), (3, "-"), (4, ";"), (5, ","), (6, "("), (7, ")"))
        self.check("let a=not b;", (0, "let"), (4, "a"), (5, "="), (6, "not"), (10, "b"), (11, ";"))
        self.check("\n\na\nb", (2, "a"), (4, "b"))
        self.check("<>!\"'~`$@^*+.:?[]{}\\", *list(enumerate("<>!\"'~`$@^*+.:?[]{}\\")))
        self.check("a%b", (0, "a"), (1, "%"), (2, "b"))

    def test_remarks(self):
        self.check("#")
        self.check("# a b c")
        self.check("a#b", (0, "a"))
        self.check("a#b\nc", (0, "a"), (4, "c"))
        self.check("#\n#\n##a\na1#", (8, "a1"))
        self.check("a #b # c\n# d\n e", (0, "a"), (14, "e"))
        self.check("12#\n34", (0, "12"), (4, "34"))

    def test_long_words(self):
        for many in (24, 25, 400, 401, 2000):
            self.check("x" * many + " " + "7" * many, (0, "x" * many), (many + 1, "7" * many))

    def test_any_texts(self):
        chance = random.Random(101)
        signs = "".join(chr(code) for code in range(32, 127)) + "\n"
        for _ in range(500):
            text = "".join(chance.choice(chance.choice((signs, "ab01_ #\n", "a1 "))) for _ in range(chance.randint(0, 40)))
            words = words_of(text)
            self.assertEqual(list(words), split(text))
            for spot, word in words:
                self.assertEqual(text[spot:spot + len(word)], word)

    def test_names(self):
        for name in KEPT:
            self.assertIs(is_free_name(name), False)
            self.assertIs(is_free_name(name + "_"), True)
            self.assertIs(is_free_name(name + "s"), True)
        self.assertEqual(len(KEPT), 15)
        for name, wanted in (("a" * 24, True), ("a" * 25, False), ("a" + "9" * 23, True), ("", False), ("a__", True), ("z9", True), ("9z", False), ("a\n", False), ("name", True), ("led", True)):
            self.assertIs(is_free_name(name), wanted)

    def test_fractions(self):
        for told, wanted in (
            ((0, 1), "0"), ((1, 1), "1"), ((-1, 1), "-1"), ((1, 2), "1/2"), ((-1, 2), "-1/2"), ((22, 7), "22/7"), ((-10, 3), "-10/3"), ((10 ** 399, 1), "1" + "0" * 399),
            ((1, 10 ** 399), "1/1" + "0" * 399), ((-(10 ** 400) + 1, 10 ** 400), "-" + "9" * 400 + "/1" + "0" * 400), ((10 ** 3999, 1), "1" + "0" * 3999),
        ):
            self.assert_plain(fraction_text(told), wanted)


if __name__ == "__main__":
    unittest.main()
