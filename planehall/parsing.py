"""Sketches and definitions read from words, and the spots of their faults (DOC.md [28] to [30]).

What is read of a sketch is told as a pair of the sketch and how deep it is,
names filled; a sketch with a fault may be told as any value.
"""

from planehall.errors import BadText
from planehall.figures import MOST_DEEP
from planehall.leading import NIL, moving
from planehall.leads import is_lead, mirror, turn
from planehall.meets import ORIGIN
from planehall.shapes import has_form, is_count
from planehall.surds import reduced
from planehall.words import are_digits, is_free_name, words_of

MOST_OPEN = 24
KINDS = {"|": "join", "-": "less", "&": "common"}
PREFIXES = ("not", "move", "scale", "turn", "mirror", "lead", "flip", "repeat")
# What stands behind each number in the brackets of a form.
SIGNS_BEHIND = {
    "half": ",,)", "disc": ",;)", "box": ",;,)", "move": ",)", "scale": ")", "turn": ",)", "mirror": ",,)",
    "lead": ",;,)", "flip": ",;,)",
}


class Reading:
    """The words of a text, read one behind the other.

    depths has how deep what stands for each name defined so far is, filled;
    names are let without a definition if it is None. faults are the spots of
    the faults found, opened is how many brackets and prefixes are open.
    """

    def __init__(self, text, depths):
        self.words = words_of(text) + ((len(text), ""),)
        self.at = 0
        self.opened = 0
        self.faults = []
        self.depths = depths

    def word(self):
        """The next word, "" at the end."""
        return self.words[self.at][1]

    def here(self):
        """The spot of the next word."""
        return self.words[self.at][0]

    def skips(self, word):
        """Whether a word is the next one: then it is read."""
        if self.word() != word:
            return False
        self.at += 1
        return True

    def expect(self, word):
        if not self.skips(word):
            raise BadText(self.here())

    def enter(self):
        """Reads a word that opens a bracket or is a prefix."""
        if self.opened == MOST_OPEN:
            raise BadText(self.here())
        self.opened += 1
        self.at += 1

    def leave(self):
        self.opened -= 1

    def made(self, spot, sketch, deep):
        """What a word makes, a fault if this is too deep."""
        if deep <= MOST_DEEP:
            return (sketch, deep)
        self.faults.append(spot)
        return (None, deep)

    def close(self):
        """Raises BadText if the text goes on, or for its first fault."""
        if self.word() != "":
            raise BadText(self.here())
        if self.faults:
            raise BadText(min(self.faults))


def read_definitions(reading):
    """The tuple of as many definitions as there are."""
    rows = []
    while reading.skips("let"):
        spot, name = reading.here(), read_name(reading)
        if name in reading.depths:
            reading.faults.append(spot)
        reading.expect("=")
        sketch, deep = read_whole(reading)
        reading.expect(";")
        reading.depths.setdefault(name, deep)
        rows.append((name, sketch))
    return tuple(rows)


def read_name(reading):
    name = reading.word()
    if not is_free_name(name):
        raise BadText(reading.here())
    reading.at += 1
    return name


def read_whole(reading):
    """A SKETCH."""
    told = read_common(reading)
    while reading.word() in ("|", "-"):
        told = read_second(reading, told, read_common)
    return told


def read_common(reading):
    """A COMMON."""
    told = read_prefixed(reading)
    while reading.word() == "&":
        told = read_second(reading, told, read_prefixed)
    return told


def read_second(reading, first, read_part):
    """What a sign makes of what was read ahead of it and the part behind it."""
    spot, kind = reading.here(), KINDS[reading.word()]
    reading.at += 1
    second = read_part(reading)
    return reading.made(spot, (kind, first[0], second[0]), 1 + max(first[1], second[1]))


def read_prefixed(reading):
    """A PREFIXED."""
    spot, word = reading.here(), reading.word()
    if word not in PREFIXES:
        return read_atom(reading)
    reading.enter()
    head = read_head(reading, spot, word)
    sketch, deep = read_prefixed(reading)
    reading.leave()
    return reading.made(spot, (*head, sketch), 1 + deep)


def read_head(reading, spot, word):
    """What a prefix makes, but for the sketch behind it."""
    if word == "not":
        return ("outside",)
    reading.expect("(")
    if word == "repeat":
        return read_repeat(reading, spot)
    numbers = read_numbers(reading, SIGNS_BEHIND[word])
    if None in numbers:
        return ("led", None)
    lead = lead_of((word, *numbers))
    if not is_lead(lead):
        reading.faults.append(spot)
    return ("led", lead)


def read_repeat(reading, spot):
    count = read_digits(reading)
    reading.expect(";")
    step = read_numbers(reading, ",)")
    if None not in step and not is_count(count):
        reading.faults.append(spot)
    return ("repeat", count, tuple(step))


def lead_of(row):
    """What a prefix and its numbers make: a lead, or something that is none."""
    match row:
        case ("move", x, y):
            return moving((x, y))
        case ("scale", a):
            return (a, NIL, False, ORIGIN)
        case ("turn", x, y):
            return None if (x, y) == ORIGIN else turn((x, y))
        case ("mirror", a, b, c):
            return None if (a, b) == ORIGIN else mirror(("line", a, b, c))
        case (word, a, b, x, y):
            return (a, b, word == "flip", (x, y))
    return None


def read_atom(reading):
    """An ATOM."""
    spot, word = reading.here(), reading.word()
    if word == "(":
        reading.enter()
        told = read_whole(reading)
        reading.expect(")")
        reading.leave()
        return told
    if word in ("all", "none"):
        reading.at += 1
        return ((word,), 1)
    if word in ("half", "disc", "box", "polygon"):
        reading.at += 1
        return (read_shape(reading, spot, word), 1)
    name = read_name(reading)
    if reading.depths is not None and name not in reading.depths:
        reading.faults.append(spot)
    return (("name", name), 1 if reading.depths is None else reading.depths.get(name, 1))


def read_shape(reading, spot, word):
    reading.expect("(")
    numbers = read_points(reading) if word == "polygon" else read_numbers(reading, SIGNS_BEHIND[word])
    if None in numbers:
        return None
    shape = (word, *numbers)
    if word in ("box", "polygon"):
        points = tuple([(numbers[k], numbers[k + 1]) for k in range(0, len(numbers), 2)])
        shape = (word, *points) if word == "box" else (word, points)
    if not has_form(shape, 1):
        reading.faults.append(spot)
    return shape


def read_points(reading):
    """The list of the numbers of three to six points, up to the bracket behind them."""
    numbers, many = [], 0
    while many < 3 or (many < 6 and reading.word() != ")"):
        if many > 0:
            reading.expect(",")
        reading.expect("(")
        numbers += read_numbers(reading, ",)")
        many += 1
    reading.expect(")")
    return numbers


def read_numbers(reading, signs):
    """The list of numbers with these signs behind them, None for a number with a fault."""
    numbers = []
    for sign in signs:
        numbers.append(read_number(reading))
        reading.expect(sign)
    return numbers


def read_number(reading):
    """A NUMBER as a fraction; None, and a fault, if 0 stands behind /."""
    spot = reading.here()
    is_negative = reading.skips("-")
    top = read_digits(reading)
    bottom = read_digits(reading) if reading.skips("/") else 1
    if bottom == 0:
        reading.faults.append(spot)
        return None
    return reduced(-top if is_negative else top, bottom)


def read_digits(reading):
    """The whole number that digits tell."""
    word = reading.word()
    if not are_digits(word):
        raise BadText(reading.here())
    reading.at += 1
    return int(word)
