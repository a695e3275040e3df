"""Pictures written as texts and as bytes, and read again (DOC.md [50] and [51])."""

from planehall.errors import BadText, InvalidBytes
from planehall.pictures import MOST_DOTS, MOST_GREY, check_picture, is_grey, is_side
from planehall.roots import is_whole
from planehall.words import DIGITS

SIGNATURE = (137, 80, 78, 71, 13, 10, 26, 10)
HEAD_NAME = (73, 72, 68, 82)
DATA_NAME = (73, 68, 65, 84)
END_NAME = (73, 69, 78, 68)
# Where in the bytes of each picture the last one of four of WIDE and of HIGH stands, and the first one of its rows.
WIDE_AT = 19
HIGH_AT = 23
ROWS_AT = 48
ALL_BITS = 4294967295
HALVING = 3988292384
SUM_BASE = 65521


def picture_text(picture):
    """A picture as a text."""
    check_picture(picture)
    rows = [" ".join([str(grey) for grey in row]) + "\n" for row in picture]
    return f"P2\n{len(picture[0])} {len(picture)}\n255\n" + "".join(rows)


def read_picture(text):
    """The picture that a text tells."""
    if not isinstance(text, str):
        raise BadText(None)
    at = behind_words(text, 0, "P2\n")
    wide, at = read_number(text, at, 1, MOST_DOTS)
    at = behind_words(text, at, " ")
    high, at = read_number(text, at, 1, MOST_DOTS)
    at = behind_words(text, at, "\n255\n")
    rows = []
    for _ in range(high):
        row = []
        for column in range(wide):
            grey, at = read_number(text, at, 0, MOST_GREY)
            at = behind_words(text, at, "\n" if column == wide - 1 else " ")
            row.append(grey)
        rows.append(tuple(row))
    if at < len(text):
        raise BadText(at)
    return tuple(rows)


def behind_words(text, at, words):
    """The index behind some letters that must stand at an index of a text."""
    for k, letter in enumerate(words):
        if text[at + k:at + k + 1] != letter:
            raise BadText(at + k)
    return at + len(words)


def read_number(text, at, least, most):
    """The pair of the number at an index of a text, from least up to most, and the index behind it."""
    sign = text[at:at + 1]
    if not sign or sign not in DIGITS or int(sign) < least:
        raise BadText(at)
    number, end = int(sign), at + 1
    # Behind a nought, and where it would get too great, no digit goes on: then something else must follow.
    while number > 0 and end < len(text) and text[end] in DIGITS and 10 * number + int(text[end]) <= most:
        number = 10 * number + int(text[end])
        end += 1
    return (number, end)


def picture_bytes(picture):
    """A picture as a tuple of bytes."""
    check_picture(picture)
    return bytes_of(picture)


def bytes_of(picture):
    rows = [part for row in picture for part in (0, *row)]
    many, wide, high = len(rows), len(picture[0]), len(picture)
    head = [*four_bytes(wide), *four_bytes(high), 8, 0, 0, 0, 0]
    data = [120, 1, 1, *two_bytes(many), *two_bytes(65535 - many), *rows, *four_bytes(sum_of_bytes(rows))]
    return SIGNATURE + chunk(HEAD_NAME, head) + chunk(DATA_NAME, data) + chunk(END_NAME, [])


def four_bytes(number):
    """The four bytes of a number, the greatest first."""
    return (number >> 24 & 255, number >> 16 & 255, number >> 8 & 255, number & 255)


def two_bytes(number):
    """The two bytes of a number, the lesser first."""
    return (number & 255, number >> 8)


def chunk(name, data):
    """The tuple of the bytes of a chunk with some bytes in it."""
    named = [*name, *data]
    return (*four_bytes(len(data)), *named, *four_bytes(check_of_bytes(named)))


def read_bytes(data):
    """The picture that a tuple of bytes tells."""
    if not isinstance(data, tuple):
        raise InvalidBytes(None)
    picture = picture_told(data)
    # If they are those of any picture as far as to an index, they are those of this one.
    wanted = bytes_of(picture)
    for index, part in enumerate(data):
        if index == len(wanted) or not is_whole(part) or part != wanted[index]:
            raise InvalidBytes(index)
    if len(data) < len(wanted):
        raise InvalidBytes(len(data))
    return picture


def picture_told(data):
    """The picture that has what bytes tell where they tell any, black dots elsewhere."""
    wide, high = side_told(data, WIDE_AT), side_told(data, HIGH_AT)
    rows = []
    for row in range(high):
        # A 0 stands ahead of the greys of each row.
        first = ROWS_AT + row * (wide + 1) + 1
        rows.append(tuple([grey_told(data, first + column) for column in range(wide)]))
    return tuple(rows)


def side_told(data, index):
    return data[index] if index < len(data) and is_side(data[index]) else 1


def grey_told(data, index):
    return data[index] if index < len(data) and is_grey(data[index]) else 0


def check_bytes(data):
    """Raises InvalidBytes for what is no tuple of whole numbers from 0 to 255."""
    if not isinstance(data, tuple):
        raise InvalidBytes(None)
    for index, part in enumerate(data):
        if not is_grey(part):
            raise InvalidBytes(index)


def check_number(data):
    """The check number of a tuple of bytes."""
    check_bytes(data)
    return check_of_bytes(data)


def check_of_bytes(data):
    number = ALL_BITS
    for part in data:
        number = number ^ part
        for _ in range(8):
            is_odd = number & 1 == 1
            number = number >> 1
            if is_odd:
                number = number ^ HALVING
    return number ^ ALL_BITS


def sum_number(data):
    """The sum number of a tuple of bytes."""
    check_bytes(data)
    return sum_of_bytes(data)


def sum_of_bytes(data):
    first, second = 1, 0
    for part in data:
        first = (first + part) % SUM_BASE
        second = (second + first) % SUM_BASE
    return 65536 * second + first
