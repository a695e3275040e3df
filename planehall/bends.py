"""The rows near a place, without checks (DOC.md [21] and [22]).

All numbers at a place lie in its field: they are told as pairs of whole
numbers (a, b), which tell a + b root(r) for the r of the place, over one whole
number above 0 that is left out where only signs are asked.
"""

from math import lcm

from planehall.surds import over_one_root, sign, sign_of_two
from planehall.sweep import ascending


def spread(place):
    """(x, y, w, r): the numbers of a place are the pairs x and y over w."""
    a, b, w, c, d, v, r = over_one_root(place[0], place[1])
    many = lcm(w, v)
    first, second = many // w, many // v
    return ((a * first, b * first), (c * second, d * second), many, r)


def dot(way, other, r):
    """The pair of the product of two ways told by pairs."""
    (a, b), (c, d) = way
    (e, f), (g, h) = other
    return (a * e + c * g + (b * f + d * h) * r, a * f + b * e + c * h + d * g)


def opposite_pair(pair):
    return (-pair[0], -pair[1])


def told_of(curve, spot):
    """(far, normal, value) of a curve, for a place that is spread; normal and value have a divisor above 0 left out.

    That of a circle's normal is far for this circle, times what all circles have
    in common; for a line far is 0.
    """
    x, y, w, r = spot
    kind, a, b, c = curve
    many = lcm(lcm(a[1], b[1]), c[1])
    first, second, third = [part[0] * (many // part[1]) for part in (a, b, c)]
    if kind == "line":
        value = (first * x[0] + second * y[0] - third * w, first * x[1] + second * y[1])
        return (0, ((first, 0), (second, 0)), value)
    normal = ((many * x[0] - first * w, many * x[1]), (many * y[0] - second * w, many * y[1]))
    square = dot(normal, normal, r)
    return (many, normal, (square[0] - third * many * w * w, square[1]))


def near_rows(curves, place):
    """The ascending list of the rows near a place."""
    spot = spread(place)
    r = spot[3]
    told = [told_of(curve, spot) for curve in curves]
    sides = [sign_of_two(value[0], value[1], r) for _, _, value in told]
    row = tuple([None if side == 0 else side < 0 for side in sides])
    through = [(k, far, normal) for k, (far, normal, _) in enumerate(told) if sides[k] == 0]
    if not through:
        return [row]
    found = {}
    for _, _, (u, v) in through:
        for way in ((opposite_pair(v), u), (v, opposite_pair(u))):
            for bent_row in rows_along(row, through, way, r):
                found[bent_row] = True
    return sorted(found)


def rows_along(row, through, way, r):
    """The list of the rows of the bends along a way, with C below, between and above the thresholds.

    Along the opposite normal a bend has the opposite C, so any one of both serves.
    """
    across = (way[1], opposite_pair(way[0]))
    sides, bent = list(row), []
    for k, far, normal in through:
        lean = dot(normal, way, r)
        if lean == (0, 0):
            rise = dot(normal, across, r)
            bent.append((k, far, rise, sign_of_two(rise[0], rise[1], r)))
        else:
            sides[k] = sign_of_two(lean[0], lean[1], r) < 0
    bent = ascending(bent, compared_thresholds)
    rows = []
    for passed in range(len(bent) + 1):
        # The value C (M . N) + G rises with C if M . N is above 0: beyond its threshold one is then outside.
        for at, (k, _, _, rising) in enumerate(bent):
            sides[k] = (rising < 0) == (at < passed)
        rows.append(tuple(sides))
    return rows


def compared_thresholds(part, other):
    """-1, 0 or 1 as the threshold of the first curve is below, at or above that of the other one.

    - far / rise is the threshold, but for a factor above 0 that all have in common.
    """
    _, far, rise, rising = part
    _, second_far, second_rise, second_rising = other
    # Curves with one way at a place touch there: it is their one common place, a point, so no root is left.
    return sign(second_far * rise[0] - far * second_rise[0]) * rising * second_rising
