"""Figures seen in windows of dots, and drawn in greys (DOC.md [47] to [49])."""

from planehall.columns import check_index
from planehall.curves import is_point
from planehall.errors import InvalidCount, InvalidPicture, InvalidView
from planehall.figures import check_figure
from planehall.meaning import told_near
from planehall.rimform import pieces_told
from planehall.roots import is_fraction, is_whole
from planehall.shapes import forms, plain
from planehall.stretches import passes, stretches_of
from planehall.surds import add, divide, multiply, squared, subtract

MOST_DOTS = 48
MOST_FINE = 4
MOST_GREY = 255
FULL = 2
MIXED = 1
EMPTY = 0
SHADES = " .:-=+*#X@"


def is_view(value):
    """Whether a value, whatever it is, is a view."""
    if not isinstance(value, tuple) or len(value) != 4:
        return False
    corner, size, wide, high = value
    return is_point(corner) and is_fraction(size) and size[0] > 0 and is_side(wide) and is_side(high)


def is_side(value):
    """Whether a value is how many dots there may be each way."""
    return is_whole(value) and 1 <= value <= MOST_DOTS


def is_picture(value):
    """Whether a value, whatever it is, is a picture."""
    if not isinstance(value, tuple) or not is_side(len(value)):
        return False
    # The first element may have no length: rows are held against each other only if all of them are rows.
    return all([is_grey_row(row) for row in value]) and all([len(row) == len(value[0]) for row in value])


def is_grey_row(value):
    """Whether a value is a row that a picture may have."""
    return isinstance(value, tuple) and is_side(len(value)) and all([is_grey(grey) for grey in value])


def is_grey(value):
    return is_whole(value) and 0 <= value <= MOST_GREY


def check_view(view):
    if not is_view(view):
        raise InvalidView(view)


def check_fine(fine):
    if not is_whole(fine) or fine < 1 or fine > MOST_FINE:
        raise InvalidCount(fine)


def dot_square(view, row, column):
    """The pair of the lower left and the upper right corner of a dot."""
    check_view(view)
    check_index(row, view[3])
    check_index(column, view[2])
    return block_box(view, (column, column + 1, row, row + 1))


def block_box(view, block):
    """The same for the dots of a block: from one column and row on, ahead of another column and row."""
    (x, y), size, _, _ = view
    left, right, top, bottom = [multiply(size, (k, 1)) for k in block]
    return ((add(x, left), subtract(y, bottom)), (add(x, right), subtract(y, top)))


def dots(figure, view):
    """The tuple of the rows of the dots: 2 for full ones, 1 for mixed ones, 0 for empty ones."""
    check_figure(figure)
    check_view(view)
    return tuple([tuple(row) for row in dots_of(figure, view)])


def dots_of(figure, view):
    """The list of the lists of the dots of each row, for a view of any number of dots."""
    curves = forms(figure)
    told = plain(figure, curves)
    _, _, wide, high = view
    rows = [[MIXED] * wide for _ in range(high)]
    left = [((0, wide, 0, high), stretches_of(pieces_told(figure)))]
    while left:
        block, stretches = left.pop()
        low, top = block_box(view, block)
        within = [stretch for stretch in stretches if passes(stretch, low, top)]
        if not within:
            # No way within meets the rim, so all of the block is told by its middle.
            is_in = told_near(told, curves, middle_between(low, top)) == "in"
            fill(rows, block, FULL if is_in else EMPTY)
        else:
            left += [(part, within) for part in halves_of(block)]
    return rows


def middle_between(point, other):
    return (divide(add(point[0], other[0]), (2, 1)), divide(add(point[1], other[1]), (2, 1)))


def fill(rows, block, kind):
    """Makes all dots of a block of one kind."""
    first, behind, top, bottom = block
    for row in rows[top:bottom]:
        row[first:behind] = [kind] * (behind - first)


def halves_of(block):
    """The list of both halves of a block, none for one dot."""
    first, behind, top, bottom = block
    if behind - first > 1 and behind - first >= bottom - top:
        middle = (first + behind) // 2
        return [(first, middle, top, bottom), (middle, behind, top, bottom)]
    if bottom - top > 1:
        middle = (top + bottom) // 2
        return [(first, behind, top, middle), (first, behind, middle, bottom)]
    return []


def covered(figure, view):
    """The pair of the areas of the full dots, and of the full and mixed ones."""
    kinds = [kind for row in dots(figure, view) for kind in row]
    square = squared(view[1])
    return (multiply(square, (kinds.count(FULL), 1)), multiply(square, (len(kinds) - kinds.count(EMPTY), 1)))


def picture(figure, view, fine):
    """The picture of a figure in a view, each dot cut into so many times so many squares."""
    check_figure(figure)
    check_view(view)
    check_fine(fine)
    corner, size, wide, high = view
    rows = dots_of(figure, (corner, divide(size, (fine, 1)), wide * fine, high * fine))
    return tuple([tuple([grey_of(rows, i, j, fine) for i in range(wide)]) for j in range(high)])


def grey_of(rows, column, row, fine):
    """The grey of a dot, rows telling the squares into which all dots are cut."""
    cut = rows[row * fine:(row + 1) * fine]
    many = sum([sum(squares[column * fine:(column + 1) * fine]) for squares in cut])
    return MOST_GREY - MOST_GREY * many // (FULL * fine * fine)


def check_picture(value):
    if not is_picture(value):
        raise InvalidPicture(value)


def picture_letters(picture):
    """The tuple of the rows of a picture as texts."""
    check_picture(picture)
    return tuple(["".join([SHADES[9 - 10 * grey // 256] for grey in row]) for row in picture])
