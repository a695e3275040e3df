"""Parts of pieces along which y rises or falls all the while x rises, without checks (DOC.md [48]).

A stretch is told as (CURVE, PART, FROM, TO): PART is that of an arc (see sweep),
0 on an upright line; FROM and TO are its ends, the lesser place first, None
where it goes out without end.
"""

from planehall.meets import compared_around, is_on_lower_half, is_upright
from planehall.surds import add, compared, divide, multiply, square_root, squared, subtract
from planehall.sweep import ascending


def stretches_of(pieces):
    """The list of the stretches of all pieces."""
    found = []
    for curve, is_inside, start, stop in pieces:
        if curve[0] == "circle":
            found += stretches_round(curve, start, stop) if is_inside else stretches_round(curve, stop, start)
        elif (curve[2][0] <= 0) == is_inside:
            found.append((curve, 0, start, stop))
        else:
            found.append((curve, 0, stop, start))
    return found


def stretches_round(circle, start, stop):
    """The list of the stretches of a circle from one place on it left to another one, all round for alike ones."""
    marks = ends_of_quarters(circle)
    if start is None:
        start = stop = marks[0]
    found = {place: True for place in marks + [start, stop]}
    places = ascending(list(found), lambda place, other: compared_around(circle, place, other))
    at = places.index(start)
    places = places[at:] + places[:at] + [start]
    stretches = []
    for first, second in zip(places, places[1:places.index(stop, 1) + 1]):
        is_lower = is_on_lower_half(circle, first)
        stretches.append((circle, -1, first, second) if is_lower else (circle, 1, second, first))
    return stretches


def ends_of_quarters(circle):
    """The list of the rightmost, highest, leftmost and lowest place of a circle."""
    _, x, y, square = circle
    radius = square_root(square)
    return [(add(x, radius), y), (x, add(y, radius)), (subtract(x, radius), y), (x, subtract(y, radius))]


def passes(stretch, low, high):
    """Whether some place of a stretch, its ends left out, lies strictly within the box of two points."""
    curve, part, start, stop = stretch
    if is_upright(curve):
        x = divide(curve[3], curve[1])
        return compared(low[0], x) < 0 < compared(high[0], x) and comes_within(start, stop, low, high, 1)
    if not comes_within(start, stop, low, high, 0):
        return False
    first = start[1] if is_behind(start, low) else height_over(curve, part, low[0])
    last = stop[1] if is_behind(high, stop) else height_over(curve, part, high[0])
    if compared(first, last) > 0:
        first, last = last, first
    # Strictly between both y takes each number between, or, on a level line, the one that both are.
    return compared(first, high[1]) < 0 and compared(last, low[1]) > 0


def comes_within(start, stop, low, high, axis):
    """Whether there are numbers strictly between both those of a stretch's ends and those of a box along an axis."""
    if start is not None and compared(start[axis], high[axis]) >= 0:
        return False
    return stop is None or compared(stop[axis], low[axis]) > 0


def is_behind(place, other):
    """Whether a place, if both are there, has the greater x."""
    return place is not None and other is not None and compared(place[0], other[0]) > 0


def height_over(curve, part, x):
    """The y of a part of a curve at a fraction."""
    kind, a, b, c = curve
    if kind == "line":
        return divide(subtract(c, multiply(a, x)), b)
    half = square_root(subtract(c, squared(subtract(x, a))))
    return add(b, half) if part == 1 else subtract(b, half)
