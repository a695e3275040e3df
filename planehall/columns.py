"""The plane between curves, as columns and walls (DOC.md [10] and [11])."""

from planehall.curves import check_curves, check_point
from planehall.errors import InvalidIndex
from planehall.roots import is_whole
from planehall.surds import compared
from planehall.sweep import corners_of, events_of, heights_at, points_of, sample_of, stack_of


def check_index(index, many):
    """Raises InvalidIndex for what is no index of one of so many."""
    if not is_whole(index) or index < 0 or index >= many:
        raise InvalidIndex(index)


def events(curves):
    """The ascending tuple of the events of some curves."""
    check_curves(curves)
    return events_of(curves, corners_of(curves))


def stack(curves, column):
    """The tuple of the arcs of a column from below."""
    numbers = events(curves)
    check_index(column, len(numbers) + 1)
    return stack_of(curves, numbers, column)


def sample(curves, column):
    """A fraction strictly within a column."""
    numbers = events(curves)
    check_index(column, len(numbers) + 1)
    return sample_of(numbers, column)


def wall(curves, event):
    """The tuple, from below, of the tuples of the indexes of the curves through each point of a wall."""
    check_curves(curves)
    corners = corners_of(curves)
    numbers = events_of(curves, corners)
    check_index(event, len(numbers))
    here = [corner for corner in corners if corner[0][0] == numbers[event]]
    left, right = stack_of(curves, numbers, event), stack_of(curves, numbers, event + 1)
    return tuple([tuple([index for index, _ in lot]) for lot in points_of(curves, here, left, right)])


def gap_of(curves, point):
    """The pair of a point's column and gap; None for a point on a curve or with x at an event."""
    numbers = events(curves)
    check_point(point)
    x, y = point
    if x in numbers:
        return None
    sides = [compared(height, y) for _, height in heights_at(curves, x)]
    if 0 in sides:
        return None
    column = len([number for number in numbers if compared(number, x) < 0])
    return (column, sides.count(-1))
