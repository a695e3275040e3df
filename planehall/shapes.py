"""The form, depth, size, bounds and plain of figures, without checks (DOC.md [16] to [19])."""

from planehall.curves import is_curve, is_point
from planehall.leading import image_of_curve, moving
from planehall.leads import is_lead
from planehall.meets import cross, form, side_of
from planehall.roots import is_whole
from planehall.surds import add, compared, multiply, negative, subtract
from planehall.sweep import ascending
from planehall.words import is_free_name

MOST_COUNT = 6


def has_form(value, deep, lets_names=False):
    """Whether a value, whatever it is, has the form of a figure, or, with names, a sketch of at most so many deep."""
    if deep < 1 or not isinstance(value, tuple) or not value or not isinstance(value[0], str):
        return False
    match value:
        case ("all",) | ("none",):
            return True
        case ("half", a, b, c):
            return is_curve(("line", a, b, c))
        case ("disc", x, y, q):
            return is_curve(("circle", x, y, q))
        case ("box", low, high):
            return are_of_box(low, high)
        case ("polygon", corners):
            return are_of_polygon(corners)
        case ("join" | "common" | "less", first, second):
            return has_form(first, deep - 1, lets_names) and has_form(second, deep - 1, lets_names)
        case ("outside", inner):
            return has_form(inner, deep - 1, lets_names)
        case ("led", lead, inner):
            return is_lead(lead) and has_form(inner, deep - 1, lets_names)
        case ("repeat", count, step, inner):
            return is_count(count) and is_point(step) and has_form(inner, deep - 1, lets_names)
        case ("name", name):
            return lets_names and is_free_name(name)
    return False


def is_count(value):
    return is_whole(value) and 1 <= value <= MOST_COUNT


def are_of_box(low, high):
    """Whether two values are the corners LOW and HIGH of a box."""
    if not is_point(low) or not is_point(high):
        return False
    return compared(low[0], high[0]) < 0 and compared(low[1], high[1]) < 0


def are_of_polygon(corners):
    """Whether a value is three to six points that go once round, turning left."""
    if not isinstance(corners, tuple) or len(corners) < 3 or len(corners) > 6:
        return False
    if not all([is_point(corner) for corner in corners]):
        return False
    for k in range(len(corners)):
        # Told from the second corner of a side on, all but the first one are the others.
        row = corners[k:] + corners[:k]
        if not all([is_left_of(row[0], row[1], other) for other in row[2:]]):
            return False
    return True


def is_left_of(first, second, point):
    """Whether a point is on the left of the way from the first point to the second one."""
    way = (subtract(second[0], first[0]), subtract(second[1], first[1]))
    return cross(way[0], way[1], subtract(point[0], first[0]), subtract(point[1], first[1]))[0] > 0


def parts_of(figure):
    """The tuple of the figures of which a figure is made."""
    if figure[0] in ("join", "common", "less"):
        return figure[1:]
    return figure[-1:] if figure[0] in ("outside", "led", "repeat") else ()


def depth(figure):
    return 1 + max([depth(part) for part in parts_of(figure)], default=0)


def size(figure):
    if figure[0] == "box":
        return 4
    if figure[0] == "polygon":
        return len(figure[1])
    parts = parts_of(figure)
    if not parts:
        return 1
    many = sum([size(part) for part in parts])
    return figure[1] * many if figure[0] == "repeat" else many


def bounds(figure):
    """The tuple of the bounds of a figure, in order."""
    match figure:
        case ("half", a, b, c):
            return (("line", a, b, c),)
        case ("disc", x, y, q):
            return (("circle", x, y, q),)
        case ("box", low, high):
            return bounds_of_box(low, high)
        case ("polygon", corners):
            onward = corners[1:] + corners[:1]
            return tuple([bound_of_side(corner, other) for corner, other in zip(corners, onward)])
        case ("led", lead, inner):
            return tuple([image_of_curve(lead, curve) for curve in bounds(inner)])
        case ("repeat", count, step, inner):
            inside = bounds(inner)
            return tuple([image_of_curve(times_moved(k, step), curve) for k in range(count) for curve in inside])
    return tuple([curve for part in parts_of(figure) for curve in bounds(part)])


def bounds_of_box(low, high):
    one, nil, minus = (1, 1), (0, 1), (-1, 1)
    beside = (("line", minus, nil, negative(low[0])), ("line", one, nil, high[0]))
    return beside + (("line", nil, minus, negative(low[1])), ("line", nil, one, high[1]))


def bound_of_side(first, second):
    """The line from one corner of a polygon to the next one, the polygon being inside."""
    a, b = subtract(second[1], first[1]), subtract(first[0], second[0])
    return ("line", a, b, add(multiply(a, first[0]), multiply(b, first[1])))


def times_moved(many, step):
    """The lead that moves so many times by a step."""
    return moving((multiply((many, 1), step[0]), multiply((many, 1), step[1])))


def forms(figure):
    """The ascending tuple of the forms of all bounds, each once."""
    found = {form(curve): True for curve in bounds(figure)}
    return tuple(ascending(list(found), compared_curves))


def compared_curves(curve, other):
    """-1, 0 or 1 as a curve is ahead of, at or behind another one: circles first, then by their numbers."""
    if curve[0] != other[0]:
        return -1 if curve[0] == "circle" else 1
    for part, second in zip(curve[1:], other[1:]):
        if part != second:
            return compared(part, second)
    return 0


def plain(figure, curves):
    """The plain of a figure, CURVES being told."""
    return plain_of_sides(figure, tuple([side_told(curve, curves) for curve in bounds(figure)]))


def side_told(curve, curves):
    """The pair of the index of a curve's form and whether the insides of both are one."""
    told = form(curve)
    # A line and a multiple of it above 0 have numbers of one sign each.
    is_inside = curve[0] == "circle" or (curve[1][0], curve[2][0]) > (0, 0)
    return (curves.index(told), is_inside)


def plain_of_sides(figure, sides):
    """The plain of a figure for the tuple of what is told of its bounds, in order."""
    match figure:
        case ("all",):
            return True
        case ("none",):
            return False
        case ("join", first, second):
            return ("any", plains_of_both(first, second, sides))
        case ("common", first, second):
            return ("each", plains_of_both(first, second, sides))
        case ("less", first, second):
            one, other = plains_of_both(first, second, sides)
            return ("each", (one, ("not", other)))
        case ("outside", inner):
            return ("not", plain_of_sides(inner, sides))
        case ("led", _, inner):
            return plain_of_sides(inner, sides)
        case ("repeat", count, _, inner):
            many = len(sides) // count
            return ("any", tuple([plain_of_sides(inner, sides[k * many:(k + 1) * many]) for k in range(count)]))
    return ("each", sides) if figure[0] in ("box", "polygon") else sides[0]


def plains_of_both(first, second, sides):
    many = len(bounds(first))
    return (plain_of_sides(first, sides[:many]), plain_of_sides(second, sides[many:]))


def row_at(curves, place):
    """The row of a place: True inside of a curve, False outside, None on it."""
    sides = [side_of(curve, place) for curve in curves]
    return tuple([None if side == 0 else side < 0 for side in sides])


def opposite(truth):
    return None if truth is None else not truth


def truth_of(told, row):
    """The truth of a plain at a row."""
    if isinstance(told, bool):
        return told
    word, part = told
    if word == "not":
        return opposite(truth_of(part, row))
    if word == "each" or word == "any":
        truths = [truth_of(one, row) for one in part]
        settles = word == "any"
        if settles in truths:
            return settles
        return None if None in truths else not settles
    return row[word] if part else opposite(row[word])
