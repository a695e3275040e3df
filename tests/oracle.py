"""What the tests find by other ways than the package: fractions of Python, bends ([21], [22]), many digits."""

from decimal import Decimal, localcontext
from fractions import Fraction

from planehall.columns import events, sample
from planehall.curves import form_of, sign_at
from planehall.figures import curves_of, is_figure
from planehall.roots import between, less, near, order, plus, root_of
from tests.helpers import DIGITS, MINUS, NIL, ONE, TWO, circle, decimal, fraction, line, pair, point

SMALL = Decimal(10) ** -60
STEP = Decimal(10) ** -18

ALL, NONE = ("all",), ("none",)
DISC, LOW = ("disc", NIL, NIL, ONE), ("half", NIL, ONE, NIL)
SQUARE = ("box", (NIL, NIL), (ONE, ONE))
WEDGE = ("polygon", ((NIL, NIL), (ONE, NIL), (NIL, ONE)))


def half(a, b, c):
    return ("half", pair(a), pair(b), pair(c))


def disc(x, y, q):
    return ("disc", pair(x), pair(y), pair(q))


def box(x, y, u, v):
    return ("box", point(x, y), point(u, v))


def polygon(*corners):
    return ("polygon", tuple(point(x, y) for x, y in corners))


def lead(a, b, is_mirrored, x, y):
    return (pair(a), pair(b), is_mirrored, point(x, y))


def moved(x, y, figure):
    return ("led", lead(1, 0, False, x, y), figure)


def led_by(told, x, y):
    """Where a lead leads (x, y), three numbers of Python being enough."""
    a, b, (u, v) = fraction(told[0]), fraction(told[1]), told[3]
    y = -y if told[2] else y
    return (a * x - b * y + fraction(u), b * x + a * y + fraction(v))


def led_from(told, x, y):
    """Which (x, y) a lead leads there."""
    a, b, (u, v) = fraction(told[0]), fraction(told[1]), told[3]
    x, y = x - fraction(u), y - fraction(v)
    wide = a * a + b * b
    x, y = (a * x + b * y) / wide, (a * y - b * x) / wide
    return (x, -y if told[2] else y)


def is_in(figure, x, y):
    """Whether a free point of Python's fractions is in a figure, as [17] tells."""
    kind, *parts = figure
    if kind in ("all", "none"):
        return kind == "all"
    if kind in ("join", "common", "less"):
        first, second = is_in(parts[0], x, y), is_in(parts[1], x, y)
        return first or second if kind == "join" else first and second if kind == "common" else first and not second
    if kind == "outside":
        return not is_in(parts[0], x, y)
    if kind == "led":
        return is_in(parts[1], *led_from(parts[0], x, y))
    if kind == "repeat":
        u, v = [fraction(number) for number in parts[1]]
        return any(is_in(parts[2], x - k * u, y - k * v) for k in range(parts[0]))
    return is_in_plain_one(kind, parts, x, y)


def is_in_at(figure, place):
    """The same for a free point."""
    return is_in(figure, fraction(place[0]), fraction(place[1]))


def is_in_plain_one(kind, parts, x, y):
    if kind == "half":
        a, b, c = [fraction(part) for part in parts]
        return a * x + b * y < c
    if kind == "disc":
        u, v, q = [fraction(part) for part in parts]
        return (x - u) ** 2 + (y - v) ** 2 < q
    if kind == "box":
        (left, bottom), (right, top) = [[fraction(number) for number in corner] for corner in parts]
        return left < x < right and bottom < y < top
    corners = [[fraction(number) for number in corner] for corner in parts[0]]
    return all((u - a) * (y - b) > (v - b) * (x - a) for (a, b), (u, v) in zip(corners, corners[1:] + corners[:1]))


def ten_place(place):
    return (decimal(place[0]), decimal(place[1]))


def normal(curve, spot):
    kind, a, b = curve[0], decimal(curve[1]), decimal(curve[2])
    return (a, b) if kind == "line" else (2 * (spot[0] - a), 2 * (spot[1] - b))


def dot(way, other):
    return way[0] * other[0] + way[1] * other[1]


def bends_at(curves, place):
    """For each bend of [22] a pair of Python's fractions on it, near to the place; the place itself off all curves."""
    with localcontext() as context:
        context.prec = DIGITS
        spot = ten_place(place)
        here = [(curve[0], normal(curve, spot)) for curve in curves if sign_at(curve, place) == 0]
        if not here:
            return [(Fraction(spot[0]), Fraction(spot[1]))]
        found = []
        for _, (n, m) in here:
            for way in ((-m, n), (m, -n)):
                for bend in bends_between(here, (n, m), way):
                    found.append((
                        Fraction(spot[0] + STEP * way[0] + STEP * STEP * bend * n),
                        Fraction(spot[1] + STEP * way[1] + STEP * STEP * bend * m)))
        return found


def bends_between(here, across, way):
    """Numbers below, between and above the thresholds along a way."""
    marks = []
    for kind, other in here:
        if abs(dot(other, way)) < SMALL:
            marks.append((Decimal(0) if kind == "line" else -dot(way, way)) / dot(other, across))
    marks = sorted(marks)
    return [marks[0] - 1] + [(low + high) / 2 for low, high in zip(marks, marks[1:])] + [marks[-1] + 1]


def side_row(curves, x, y):
    """The row of a free pair of Python's fractions."""
    return tuple(value_of(curve, x, y) < 0 for curve in curves)


def value_of(curve, x, y):
    a, b, c = [fraction(part) for part in curve[1:]]
    return a * x + b * y - c if curve[0] == "line" else (x - a) ** 2 + (y - b) ** 2 - c


def telling_by_bends(figure, curves, place):
    """What a figure tells at a place, by [20] and [22]."""
    told = {is_in(figure, x, y) for x, y in bends_at(curves, place)}
    return "rim" if len(told) == 2 else "in" if True in told else "out"


def arc_places(curves, column):
    """The places of all arcs over a column's sample, from below."""
    x = sample(curves, column)
    heights = []
    for kind, a, b, c in curves:
        a, b, c, at = fraction(a), fraction(b), fraction(c), fraction(x)
        if kind == "circle" and c > (at - a) ** 2:
            root = root_of(pair(c - (at - a) ** 2))
            heights += [less(pair(b), root), plus(pair(b), root)]
        elif kind == "line" and b:
            heights.append(pair((c - a * at) / b))
    return [(x, height) for height in sorted(heights, key=decimal)]


def places_between(x, heights):
    """A place at x below, between and above some ascending heights."""
    if not heights:
        return [(x, NIL)]
    found = [(near(heights[0], 1)[0] - 1, 1)]
    found += [between(low, high) for low, high in zip(heights, heights[1:])]
    return [(x, height) for height in found + [(near(heights[-1], 1)[0] + 1, 1)]]


def parts_in_order(curves, all_corners):
    """The pair of lists of places: on each part of an edge, and in each gap of a column, in the order of [12]."""
    on_edges, in_gaps = [], []
    numbers = events(curves)
    for column in range(len(numbers) + 1):
        places = arc_places(curves, column)
        on_edges += places
        in_gaps += places_between(sample(curves, column), [height for _, height in places])
        if column < len(numbers):
            x = numbers[column]
            if [curve for curve in curves if curve[0] == "line" and curve[2] == NIL and order(x, form_x(curve)) == 0]:
                on_edges += places_between(x, [place[1] for place in all_corners if place[0] == x])
    return on_edges, in_gaps


def form_x(curve):
    return pair(fraction(curve[3]) / fraction(curve[1]))


def meets_segment(curve, start, stop):
    """Whether the straight way between two points of Python's fractions meets a curve."""
    first, second = value_of(curve, *start), value_of(curve, *stop)
    if first * second <= 0:
        return True
    if curve[0] == "line" or first < 0:
        return False
    x, y = fraction(curve[1]), fraction(curve[2])
    way = (stop[0] - start[0], stop[1] - start[1])
    length = dot(way, way)
    share = 0 if length == 0 else dot(way, (x - start[0], y - start[1])) / length
    share = max(Fraction(0), min(Fraction(1), share))
    return value_of(curve, start[0] + share * way[0], start[1] + share * way[1]) <= 0


def some_curves(chance, many):
    """Unlike forms with small numbers, so that much falls together, often through (0, 0) or with one middle."""
    found = []
    while len(found) < many:
        kind = chance.random()
        x, y = chance.randint(-2, 2), chance.randint(-2, 2)
        if kind < 0.15 and (x or y):
            curve = circle(x, y, x * x + y * y)
        elif kind < 0.3:
            curve = circle(0, 0, chance.choice((1, 2, 4, 5, 8, Fraction(1, 4))))
        elif kind < 0.55:
            curve = circle(x, y, chance.choice((1, 1, 1, 4, 2, Fraction(1, 4), 5)))
        elif kind < 0.7:
            curve = form_of(line(1, 0, Fraction(chance.randint(-4, 4), 2)))
        elif kind < 0.8 and (x or y):
            curve = form_of(line(x, y, 0))
        else:
            curve = form_of(line(chance.choice((-2, -1, 0, 0, 1, 2)), 1, Fraction(chance.randint(-4, 4), 2)))
        if curve not in found:
            found.append(curve)
    return tuple(found)


def some_figure(chance, deep):
    """A figure of small numbers, of which some fall together."""
    if deep < 2 or chance.random() < 0.15:
        return some_plain_one(chance)
    kind = chance.choice(("join", "common", "less", "join", "common", "less", "outside", "led", "repeat"))
    if kind in ("join", "common", "less"):
        return (kind, some_figure(chance, deep - 1), some_figure(chance, deep - 1))
    inner = some_figure(chance, deep - 1)
    if kind == "outside":
        return ("outside", inner)
    if kind == "repeat":
        return ("repeat", chance.randint(1, 3), point(chance.choice((-1, 0, 1, 2)), chance.randint(-1, 1)), inner)
    return ("led", some_lead(chance), inner)


def some_right_figure(chance, deep, most=9):
    """A figure with neither too many curves nor too great a size."""
    while True:
        figure = some_figure(chance, deep)
        if is_figure(figure) and len(curves_of(figure)) <= most:
            return figure


def some_lead(chance):
    a, b = chance.choice(((1, 0), (0, 1), (-1, 0), (0, -1), (1, 1), (2, 0), (Fraction(3, 5), Fraction(4, 5)), (Fraction(1, 2), 0)))
    return lead(a, b, chance.random() < 0.5, chance.randint(-1, 1), chance.choice((0, 1, Fraction(1, 2))))


def some_plain_one(chance):
    x, y, kind = chance.randint(-1, 1), chance.randint(-1, 1), chance.random()
    if kind < 0.4:
        return disc(x, y, chance.choice((1, 1, 2, 4, Fraction(1, 4))))
    if kind < 0.7:
        a, b = chance.choice(((1, 0), (-1, 0), (0, 1), (0, -1), (1, 1), (-2, 2), (Fraction(1, 2), -1)))
        return half(a, b, chance.choice((0, 0, 1, Fraction(-1, 2))))
    if kind < 0.8:
        return box(x, y, x + chance.randint(1, 2), y + 1)
    if kind < 0.9:
        return polygon((x, y), (x + 2, y), (x, y + 1))
    return ALL if kind < 0.95 else NONE


TWO_HALVES = ("join", LOW, ("outside", LOW))
BOWL = ("common", DISC, LOW)
SLIVER = ("common", DISC, ("half", MINUS, NIL, MINUS))
TWO_DISCS = ("join", DISC, ("disc", TWO, NIL, ONE))
