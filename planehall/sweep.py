"""Corners, events, stacks and the points of walls, without checks (DOC.md [10] and [11]).

An arc is a pair (index, part) as there. A key is an arc, or (index, 0) for the
place at which a circle begins or ends.
"""

from planehall.meets import common_places, compared_places, is_upright
from planehall.surds import add, compared, divide, floor_of, fraction_between, multiply
from planehall.surds import square_root, squared, subtract


def ascending(values, comparing):
    """The list of the values from the least on, as a function tells their order."""
    row = []
    for value in values:
        low, high = 0, len(row)
        while low < high:
            middle = (low + high) // 2
            if comparing(value, row[middle]) < 0:
                high = middle
            else:
                low = middle + 1
        row.insert(low, value)
    return row


def corners_of(curves):
    """The ascending list of pairs of a corner and the ascending indexes of the curves through it."""
    through = {}
    for second in range(len(curves)):
        for first in range(second):
            for place in common_places(curves[first], curves[second]):
                through.setdefault(place, []).extend([first, second])
    return [(place, tuple(sorted(set(through[place])))) for place in ascending(list(through), compared_places)]


def events_of(curves, corners):
    """The ascending tuple of the events."""
    found = {}
    for place, _ in corners:
        found[place[0]] = True
    for curve in curves:
        for number in ends_of(curve):
            found[number] = True
    return tuple(ascending(list(found), compared))


def ends_of(curve):
    """The x at which a curve begins, ends or stands upright."""
    kind, a, b, c = curve
    if kind == "circle":
        radius = square_root(c)
        return (subtract(a, radius), add(a, radius))
    return (divide(c, a),) if b[0] == 0 else ()


def sample_of(numbers, column):
    """A fraction strictly within a column of the events told."""
    if not numbers:
        return (0, 1)
    if column == 0:
        return (floor_of(numbers[0], 1) - 1, 1)
    if column == len(numbers):
        return (floor_of(numbers[-1], 1) + 1, 1)
    return fraction_between(numbers[column - 1], numbers[column])


def heights_at(curves, x):
    """The list of pairs of an arc and its y over a fraction that is no event."""
    found = []
    for index, curve in enumerate(curves):
        kind, a, b, c = curve
        if kind == "circle":
            room = subtract(c, squared(subtract(x, a)))
            if room[0] > 0:
                half = square_root(room)
                found += [((index, -1), subtract(b, half)), ((index, 1), add(b, half))]
        elif b[0] != 0:
            found.append(((index, 0), divide(subtract(c, multiply(a, x)), b)))
    return found


def compared_heights(pair, other):
    return compared(pair[1], other[1])


def stack_of(curves, numbers, column):
    """The tuple of the arcs of a column from below."""
    pairs = heights_at(curves, sample_of(numbers, column))
    return tuple([arc for arc, _ in ascending(pairs, compared_heights)])


def key_of(arc, left, right):
    """The key under which an arc of one stack ends at the wall between both."""
    return arc if arc in left and arc in right else (arc[0], 0)


def part_at(curve, place):
    """The part of a curve to which a place on it belongs, 0 for both ends of a circle."""
    return 0 if curve[0] == "line" else compared(place[1], curve[2])


def lots_at(curves, corners, keys):
    """The list of the tuples of the keys that end in one point, for the corners of one wall."""
    lots = []
    for place, indexes in corners:
        lots.append(tuple([(k, part_at(curves[k], place)) for k in indexes if not is_upright(curves[k])]))
    joined = [key for lot in lots for key in lot]
    return lots + [(key,) for key in keys if key not in joined]


def points_of(curves, corners, left, right):
    """The tuple of the points of a wall from below, each as the ascending tuple of its keys.

    The corners are those of the wall, left and right the stacks beside it.
    """
    left_at = {key_of(arc, left, right): k for k, arc in enumerate(left)}
    right_at = {key_of(arc, left, right): k for k, arc in enumerate(right)}
    keys = list(left_at) + [key for key in right_at if key not in left_at]
    points = []
    for lot in lots_at(curves, corners, keys):
        from_left = [left_at[key] for key in lot if key in left_at]
        from_right = [right_at[key] for key in lot if key in right_at]
        points.append((lot, from_left, from_right, curves[lot[0][0]][2]))
    return tuple([point[0] for point in ascending(points, compared_points)])


def compared_points(point, other):
    """The order of two points of a wall, each (keys, indexes in the left stack, in the right one, height)."""
    for side in (1, 2):
        if point[side] and other[side]:
            return point[side][0] - other[side][0]
    # One is told by the left alone, the other one by the right: ends of circles, as high as their centres.
    return compared(point[3], other[3])
