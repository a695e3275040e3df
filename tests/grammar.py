"""What the tests know of texts by other ways than the package: a machine for the forms of [28], a writer of texts with their faults."""

import re
from fractions import Fraction

from tests.helpers import pair

WORD = re.compile(r"#[^\n]*|[ \n]|([0-9]+|[a-z][a-z0-9_]*|.)")
KEPT = "all none half disc box polygon not move scale turn mirror lead flip repeat let".split()
PREFIXES = {
    "not": [], "move": "( n , n )", "scale": "( n )", "turn": "( n , n )", "mirror": "( n , n , n )", "lead": "( n , n ; n , n )",
    "flip": "( n , n ; n , n )", "repeat": "( digits ; n , n )",
}
ATOMS = {"all": "", "none": "", "half": "( n , n , n )", "disc": "( n , n ; n )", "box": "( n , n ; n , n )", "polygon": "( point , point , point more2"}
PARTS = {"point": "( n , n )", "number": "digits over", "common": "prefixed ands", "sketch": "common ors"}


def split(text):
    """The list of pairs of a spot and a word."""
    return [(found.start(), found.group()) for found in WORD.finditer(text) if found.group(1)]


def is_digits(word):
    return word.isdigit() and len(word) <= 400


def is_name(word):
    return word[:1].islower() and len(word) <= 24 and word not in KEPT


class Machine:
    """Takes words one by one; what is still wanted stands on a stack, the next one last."""

    def __init__(self, wanted):
        self.stack = wanted[::-1]
        self.opened = 0

    def want(self, parts):
        self.stack += (parts.split() if isinstance(parts, str) else parts)[::-1]

    def takes(self, word):
        """Whether a word goes on; "" for the end of the text."""
        while self.stack:
            part = self.stack.pop()
            told = self.expand(part, word)
            if told is not None:
                return told
        return word == ""

    def expand(self, part, word):
        """True or False if the word is taken or not; None if something else is wanted now."""
        if part in PARTS:
            self.want(PARTS[part])
        elif part == "n":
            self.want((["-"] if word == "-" else []) + ["number"])
        elif part == "over":
            self.want("/ digits" if word == "/" else "")
        elif part in ("ors", "ands"):
            signs, behind = ("|-", "common ors") if part == "ors" else ("&", "prefixed ands")
            self.want(["sign:" + word] + behind.split() if word and word in signs else [])
        elif part.startswith("more"):
            many = int(part[4:]) + 1
            self.want([",", "point", f"more{many}"] if word == "," and many < 6 else [")"])
        elif part == "book":
            self.want("let name = sketch ; book" if word == "let" else "")
        elif part == "leave":
            self.opened -= 1
        elif part == "prefixed":
            return self.expand_prefixed(word)
        else:
            return self.is_right(part, word)
        return None

    def expand_prefixed(self, word):
        if word in PREFIXES or word == "(":
            if self.opened == 24:
                return False
            self.opened += 1
            self.want(f"{PREFIXES[word] or ''} prefixed leave" if word in PREFIXES else "sketch ) leave")
            return True
        if word in ATOMS:
            self.want(ATOMS[word])
            return True
        return is_name(word)

    def is_right(self, part, word):
        if part == "digits":
            return is_digits(word)
        if part == "name":
            return is_name(word)
        return part == word or part == "sign:" + word


WANTED = {"sketch": ["sketch"], "scene": ["book", "sketch"], "book": ["book"]}


def wrong_spot(kind, text):
    """The spot of the first word with which no text of a form goes on, or of the end; None if the text has the form."""
    machine = Machine(WANTED[kind])
    for spot, word in split(text):
        if not machine.takes(word):
            return spot
    return None if machine.takes("") else len(text)


class Writer:
    """Writes words with any blanks, and keeps the spots of faults."""

    def __init__(self, chance, depths=None):
        self.chance = chance
        self.text = ""
        self.faults = []
        self.depths = depths

    def blank(self):
        if self.chance.random() < 0.6:
            return self.chance.choice(("", " "))
        return self.chance.choice((" ", "\n", "  ", " \n ", "# no | let (\n", "#\n", " ## not\n "))

    def word(self, word):
        """Writes a word, and returns its spot."""
        blank = self.blank()
        if blank == "" and self.text and re.match("[a-z0-9_]{2}$", self.text[-1] + word[0]):
            blank = " "
        self.text += blank
        self.text += word
        return len(self.text) - len(word)

    def fault(self, spot):
        self.faults.append(spot)

    def number(self, value):
        """Writes a number, not always reduced; None for one with 0 behind /. Returns whether it is right."""
        many = self.chance.choice((1, 1, 1, 2, 3, 6))
        top, bottom = (self.chance.randint(-3, 3), 0) if value is None else (value.numerator * many, value.denominator * many)
        noughts = self.chance.choice(("", "", "", "0", "000"))
        sign = "-" if top < 0 or (top == 0 and self.chance.random() < 0.2) else ""
        spots = [self.word(sign)] if sign else []
        spots.append(self.word(noughts + str(abs(top))))
        if bottom != 1 or self.chance.random() < 0.2:
            self.word("/")
            self.word(self.chance.choice(("", "", "0")) + str(bottom))
        if value is None:
            self.fault(spots[0])

    def numbers(self, values, signs):
        for value, sign in zip(values, signs):
            self.number(value)
            self.word(sign)

    def deepened(self, spot, deep):
        if deep > 12:
            self.fault(spot)
        return deep

    def sketch(self, tree, close=0):
        """Writes a tree, in brackets where need be or at random; returns how deep it is."""
        own = {"|": 0, "-": 0, "&": 1}.get(tree[0], 2)
        if own < close or self.chance.random() < 0.1:
            self.word("(")
            deep = self.bare(tree, own)
            self.word(")")
            return deep
        return self.bare(tree, own)

    def bare(self, tree, own):
        word = tree[0]
        if word in ("|", "-", "&"):
            first = self.sketch(tree[1], own)
            spot = self.word(word)
            return self.deepened(spot, 1 + max(first, self.sketch(tree[2], own + 1)))
        if word == "name":
            spot = self.word(tree[1])
            if self.depths is not None and tree[1] not in self.depths:
                self.fault(spot)
            return 1 if self.depths is None else self.depths.get(tree[1], 1)
        spot = self.word(word)
        if word in PREFIXES:
            self.numbers_of_form(spot, tree[:-1])
            return self.deepened(spot, 1 + self.sketch(tree[-1], 2))
        self.numbers_of_form(spot, tree)
        return 1

    def numbers_of_form(self, spot, tree):
        """Writes what stands in the brackets behind a word: (word, is_right, numbers), (repeat, is_right, count, numbers)."""
        word = tree[0]
        if len(tree) == 1:
            return
        self.word("(")
        if word == "repeat":
            self.word(self.chance.choice(("", "0", "00")) + str(tree[2]))
            self.word(";")
        if word == "polygon":
            points = [tree[2][k:k + 2] for k in range(0, len(tree[2]), 2)]
            for k, point in enumerate(points):
                self.word("(")
                self.numbers(point, ",)")
                self.word("," if k + 1 < len(points) else ")")
        else:
            self.numbers(tree[-1], (PREFIXES.get(word) or ATOMS[word]).replace("digits ; ", "").replace("( ", "").replace("n ", "").split())
        if None not in tree[-1] and not tree[1]:
            self.fault(spot)


def some_number(chance):
    return Fraction(chance.randint(-4, 4), chance.choice((1, 1, 1, 2, 3)))


def some_numbers(chance, many):
    return [some_number(chance) for _ in range(many)]


def some_tree(chance, deep, names, wrong):
    """A tree of at most so many deep; wrong is how often, of 1, a part has a fault."""
    if deep > 1 and chance.random() < 0.75:
        if chance.random() < 0.6:
            return (chance.choice("|-&"), some_tree(chance, deep - 1, names, wrong), some_tree(chance, deep - 1, names, wrong))
        return some_prefix(chance, wrong) + (some_tree(chance, deep - 1, names, wrong),)
    if names and chance.random() < 0.5:
        return ("name", chance.choice(names))
    return some_atom(chance, wrong)


def some_prefix(chance, wrong):
    word = chance.choice(list(PREFIXES))
    if word == "not":
        return (word,)
    is_right = chance.random() >= wrong
    if word == "repeat":
        return (word, is_right, chance.randint(1, 6) if is_right else chance.choice((0, 7, 10, 666)), spoilt_numbers(chance, some_numbers(chance, 2), wrong))
    numbers = some_numbers(chance, {"move": 2, "scale": 1, "turn": 2, "mirror": 3, "lead": 4, "flip": 4}[word])
    if word == "move":
        return (word, True, spoilt_numbers(chance, numbers, wrong))
    many = 1 if word == "scale" else 2
    numbers[:many] = [Fraction(0)] * many if not is_right else [number or Fraction(1) for number in numbers[:many]]
    return (word, is_right, spoilt_numbers(chance, numbers, wrong))


def some_atom(chance, wrong):
    word = chance.choice(list(ATOMS))
    if word in ("all", "none"):
        return (word,)
    is_right = chance.random() >= wrong
    if word == "half":
        numbers = [Fraction(0), Fraction(0), some_number(chance)] if not is_right else [some_number(chance) or Fraction(1), *some_numbers(chance, 2)]
    elif word == "disc":
        numbers = some_numbers(chance, 2) + [chance.choice((1,) if is_right else (-1, 0)) * Fraction(chance.randint(1, 4), 3)]
    elif word == "box":
        x, y = some_numbers(chance, 2)
        numbers = [x, y, x + chance.randint(1, 3), y + 1] if is_right else [x, y, x + 1, y] if chance.random() < 0.5 else [x, y, x - 1, y + 1]
    else:
        x, y = some_numbers(chance, 2)
        corners = [(x, y), (x + 3, y), (x + 4, y + 2), (x + 3, y + 4), (x, y + 4), (x - 1, y + 2)]
        corners = corners[:3] + [corner for corner in corners[3:] if chance.random() < 0.5]
        numbers = [number for corner in (corners if is_right else corners[::-1]) for number in corner]
    return (word, is_right, spoilt_numbers(chance, numbers, wrong))


def spoilt_numbers(chance, numbers, wrong):
    return [None if chance.random() < wrong / 3 else number for number in numbers]


def sketch_of(tree):
    """The sketch that a tree without faults tells."""
    word = tree[0]
    if word in ("|", "-", "&"):
        return ({"|": "join", "-": "less", "&": "common"}[word], sketch_of(tree[1]), sketch_of(tree[2]))
    if word in ("all", "none", "name"):
        return tree
    if word in ("half", "disc"):
        return (word, *[pair(number) for number in tree[2]])
    if word in ("box", "polygon"):
        points = tuple((pair(tree[2][k]), pair(tree[2][k + 1])) for k in range(0, len(tree[2]), 2))
        return (word, *points) if word == "box" else (word, points)
    inner = sketch_of(tree[-1])
    if word == "not":
        return ("outside", inner)
    if word == "repeat":
        return ("repeat", tree[2], tuple(pair(number) for number in tree[3]), inner)
    return ("led", lead_told(word, tree[2]), inner)


def lead_told(word, numbers):
    if word == "mirror":
        a, b, c = numbers
        wide = a * a + b * b
        told = ((b * b - a * a) / wide, -2 * a * b / wide, True, 2 * c / wide * a, 2 * c / wide * b)
    elif word == "turn":
        a, b = numbers
        wide = a * a + b * b
        told = ((a * a - b * b) / wide, 2 * a * b / wide, False, 0, 0)
    elif word == "scale":
        told = (numbers[0], 0, False, 0, 0)
    elif word == "move":
        told = (1, 0, False, *numbers)
    else:
        told = (numbers[0], numbers[1], word == "flip", numbers[2], numbers[3])
    return (pair(told[0]), pair(told[1]), told[2], (pair(told[3]), pair(told[4])))


def depth_of_tree(tree, depths):
    if tree[0] == "name":
        return depths.get(tree[1], 1)
    parts = tree[1:] if tree[0] in ("|", "-", "&") else tree[-1:] if tree[0] in PREFIXES else ()
    return 1 + max([depth_of_tree(part, depths) for part in parts], default=0)
