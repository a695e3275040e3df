"""Values of curves, and what they have in common, without checks (DOC.md [8] and [9])."""

from math import gcd, lcm

from planehall.surds import add, compared, divide, multiply, negative, sign_of, square_root, squared, subtract

ORIGIN = ((0, 1), (0, 1))


def form(curve):
    """The form of a curve."""
    kind, a, b, c = curve
    if kind == "circle":
        return curve
    many = lcm(lcm(a[1], b[1]), c[1])
    first, second, third = [part[0] * (many // part[1]) for part in (a, b, c)]
    shared = gcd(gcd(first, second), third)
    if first < 0 or (first == 0 and second < 0):
        shared = -shared
    return ("line", (first // shared, 1), (second // shared, 1), (third // shared, 1))


def is_upright(curve):
    return curve[0] == "line" and curve[2][0] == 0


def value_at(curve, place):
    """The value of a curve at a place, a number of the place's field."""
    kind, a, b, c = curve
    if kind == "line":
        return subtract(add(multiply(a, place[0]), multiply(b, place[1])), c)
    return subtract(add(squared(subtract(place[0], a)), squared(subtract(place[1], b))), c)


def compared_places(place, other):
    """-1, 0 or 1 as the first place is ahead of, at or behind the other one: by x, then by y."""
    return compared(place[0], other[0]) or compared(place[1], other[1])


def common_places(curve, second):
    """The ascending tuple of the places on both curves, () for curves that are one."""
    if curve[0] == "line":
        return lines_meet(curve, second) if second[0] == "line" else line_meets(curve, second)
    if second[0] == "line":
        return line_meets(second, curve)
    line = alike_line(curve, second)
    return () if line is None else line_meets(line, curve)


def cross(a, b, c, d):
    """a d - b c for four numbers of one field."""
    return subtract(multiply(a, d), multiply(b, c))


def lines_meet(line, second):
    """The places on both of two lines: one, or none for lines that run along one way."""
    _, a, b, c = line
    _, d, e, f = second
    whole = cross(a, b, d, e)
    if whole[0] == 0:
        return ()
    return ((divide(cross(c, b, f, e), whole), divide(cross(a, c, d, f), whole)),)


def line_meets(line, circle):
    """The places on both a line and a circle, ascending."""
    _, a, b, _ = line
    _, x, y, square = circle
    length = add(squared(a), squared(b))
    value = value_at(line, (x, y))
    room = subtract(multiply(square, length), squared(value))
    if room[0] < 0:
        return ()
    share = divide(value, length)
    foot = (subtract(x, multiply(share, a)), subtract(y, multiply(share, b)))
    if room[0] == 0:
        return (foot,)
    step = divide(square_root(room), length)
    there = (subtract(foot[0], multiply(step, b)), add(foot[1], multiply(step, a)))
    back = (add(foot[0], multiply(step, b)), subtract(foot[1], multiply(step, a)))
    return (there, back) if compared_places(there, back) < 0 else (back, there)


def alike_line(circle, second):
    """The line on which the values of two circles are alike; None if their centres are one."""
    _, x, y, _ = circle
    _, u, v, _ = second
    if (x, y) == (u, v):
        return None
    # Both values have x x + y y in common: what is left is the difference of those at (0, 0).
    rest = subtract(value_at(second, ORIGIN), value_at(circle, ORIGIN))
    return ("line", multiply((2, 1), subtract(u, x)), multiply((2, 1), subtract(v, y)), rest)


def side_of(curve, place):
    """-1, 0 or 1 as a place is inside, on or outside of a curve as it is told."""
    return sign_of(value_at(curve, place))


def dot(way, other):
    """The product of two ways of one field."""
    return add(multiply(way[0], other[0]), multiply(way[1], other[1]))


def numbers_along(curve, point, way):
    """The ascending tuple of the t at which point + t way is on a curve, () for a line that has all these places."""
    kind, a, b, _ = curve
    value = value_at(curve, point)
    if kind == "line":
        rise = dot((a, b), way)
        return () if rise[0] == 0 else (negative(divide(value, rise)),)
    # The value there is t t square + 2 t lean + value.
    square, lean = dot(way, way), dot((subtract(point[0], a), subtract(point[1], b)), way)
    room = subtract(squared(lean), multiply(square, value))
    if room[0] < 0:
        return ()
    middle, step = negative(divide(lean, square)), divide(square_root(room), square)
    return (middle,) if room[0] == 0 else (subtract(middle, step), add(middle, step))


def compared_around(circle, place, other):
    """-1, 0 or 1 as a place on a circle is ahead of, at or behind another one, turning left from the rightmost one."""
    first, second = is_on_lower_half(circle, place), is_on_lower_half(circle, other)
    if first != second:
        return 1 if first else -1
    side = compared(place[0], other[0])
    return side if first else -side


def is_on_lower_half(circle, place):
    """Whether a place on a circle is on its lower half, or its leftmost one."""
    side = compared(place[1], circle[2])
    return side < 0 or (side == 0 and compared(place[0], circle[1]) < 0)
