"""The plane as some curves part it into corners, edges and faces, without checks (DOC.md [12])."""

from planehall.meets import is_upright, side_of
from planehall.surds import compared, divide
from planehall.sweep import ascending, corners_of, events_of, heights_at, points_of, sample_of, stack_of


class Wall:
    """The wall at an event.

    upright is the index of the upright curve there, or None; points are its
    points from below, each as the tuple of its keys (see sweep); corners has
    for each point the index of its corner, or None; left and right have for
    each gap how many arcs of the column on that side end below it.
    """

    def __init__(self, upright, points, corners, left, right):
        self.upright = upright
        self.points = points
        self.corners = corners
        self.left = left
        self.right = right


class Parting:
    """The plane as some curves part it.

    corners, events, stacks and walls are in their order; faces[column][gap]
    and arcs[column][k] are the indexes of the face of a gap and of the edge of
    the k-th arc from below, posts[event][gap] that of the edge on an upright
    curve, none being there for other walls.
    """

    def __init__(self, curves):
        corners = corners_of(curves)
        self.curves = curves
        self.corners = [place for place, _ in corners]
        self.events = events_of(curves, corners)
        self.stacks = [stack_of(curves, self.events, column) for column in range(len(self.events) + 1)]
        self.walls = walls_of(curves, corners, self.events, self.stacks)
        self.faces = numbered([len(row) + 1 for row in self.stacks], joined_gaps(self.walls))
        edges = numbered(edge_rows(self.stacks, self.walls), joined_arcs(self.walls))
        self.arcs = edges[0::2]
        self.posts = edges[1::2]


def upright_at(curves, x):
    """The index of the upright curve at x; None if there is none."""
    for index, curve in enumerate(curves):
        if is_upright(curve) and divide(curve[3], curve[1]) == x:
            return index
    return None


def walls_of(curves, corners, numbers, stacks):
    """The list of the walls at the events told."""
    walls, first = [], 0
    for event, x in enumerate(numbers):
        here = [corner for corner in corners if corner[0][0] == x]
        left, right = stacks[event], stacks[event + 1]
        points = points_of(curves, here, left, right)
        upright = upright_at(curves, x)
        # On an upright curve each point is a corner, elsewhere each one of several curves.
        indexes = counted([upright is not None or len(keys) > 1 for keys in points], first)
        walls.append(Wall(upright, points, indexes, marks_of(points, left), marks_of(points, right)))
        first += len(here)
    return walls


def counted(are_so, first):
    """For each True the next whole number, beginning with the first one, for each False None."""
    found, many = [], first
    for is_so in are_so:
        found.append(many if is_so else None)
        many += 1 if is_so else 0
    return found


def marks_of(points, stack):
    """The list of how many arcs of a stack end below each gap of a wall."""
    marks = [0]
    for keys in points:
        ending = [arc for arc in stack if arc in keys or (arc[0], 0) in keys]
        marks.append(marks[-1] + len(ending))
    return marks


def arcs_at(walls, event, point):
    """The list of the arcs, each as its column and its index in the stack, that end in a point of a wall."""
    left, right = walls[event].left, walls[event].right
    ahead = [(event, k) for k in range(left[point], left[point + 1])]
    return ahead + [(event + 1, k) for k in range(right[point], right[point + 1])]


def joined_gaps(walls):
    """The list of the pairs of gaps, each as its column and its index, that are joined."""
    pairs = []
    for event, wall in enumerate(walls):
        if wall.upright is None:
            pairs += [((event, low), (event + 1, high)) for low, high in zip(wall.left, wall.right)]
    return pairs


def edge_rows(stacks, walls):
    """How many parts of edges there are over column 0, on an upright curve at wall 0, over column 1, and so on."""
    rows = [len(stacks[0])]
    for event, wall in enumerate(walls):
        rows += [0 if wall.upright is None else len(wall.points) + 1, len(stacks[event + 1])]
    return rows


def joined_arcs(walls):
    """The list of the pairs of arcs, each as its row and its index, that hang together over no corner."""
    pairs = []
    for event, wall in enumerate(walls):
        for point, corner in enumerate(wall.corners):
            if corner is None:
                arcs = [(2 * column, k) for column, k in arcs_at(walls, event, point)]
                pairs += [(arcs[0], arc) for arc in arcs[1:]]
    return pairs


def numbered(rows, pairs):
    """For rows of so many parts the lists of the numbers of the lots in which they are.

    Parts, each told as its row and its index, that are one pair are in one lot;
    lots are numbered from 0 on, in the order in which their first parts come.
    """
    ahead, numbers, found = {}, {}, []
    for pair in pairs:
        first, second = sorted([first_of(ahead, part) for part in pair])
        if first != second:
            ahead[second] = first
    for row, many in enumerate(rows):
        lots = [first_of(ahead, (row, k)) for k in range(many)]
        for lot in lots:
            numbers.setdefault(lot, len(numbers))
        found.append([numbers[lot] for lot in lots])
    return found


def first_of(ahead, part):
    """The first part of a lot, reached from any of its parts by way of those ahead of it."""
    found = part
    while found in ahead:
        found = ahead[found]
    return found


def edges_of(parting):
    """The list of the edges as (INDEX, START, STOP, INSIDE, OUTSIDE).

    From the corner START to the corner STOP, None where there is none, one goes
    to the right or up on a line, turning left on a circle.
    """
    starts, stops = ends_of_edges(parting)
    sides = sides_of_edges(parting)
    return [(sides[k][0], starts.get(k), stops.get(k), sides[k][1], sides[k][2]) for k in range(len(sides))]


def ends_of_edges(parting):
    """The pair of dicts of the corner at which each edge starts, and at which it stops."""
    starts, stops = {}, {}
    for event, wall in enumerate(parting.walls):
        for point, corner in enumerate(wall.corners):
            if corner is not None:
                for column, k in arcs_at(parting.walls, event, point):
                    # Turning left one goes along a lower half as along a line, but to the left along an upper one.
                    is_upper = parting.stacks[column][k][1] == 1
                    ends = stops if (column == event) != is_upper else starts
                    ends[parting.arcs[column][k]] = corner
                if wall.upright is not None:
                    stops[parting.posts[event][point]] = corner
                    starts[parting.posts[event][point + 1]] = corner
    return (starts, stops)


def sides_of_edges(parting):
    """The dict of the curve, the face inside and the face outside of each edge."""
    sides = {}
    for column, stack in enumerate(parting.stacks):
        faces = parting.faces[column]
        for k, (index, part) in enumerate(stack):
            below, above = faces[k], faces[k + 1]
            is_below = is_inside_below(parting.curves[index], part)
            sides[parting.arcs[column][k]] = (index, below, above) if is_below else (index, above, below)
    for event, wall in enumerate(parting.walls):
        for gap, edge in enumerate(parting.posts[event]):
            left = parting.faces[event][wall.left[gap]]
            sides[edge] = (wall.upright, left, parting.faces[event + 1][wall.right[gap]])
    return sides


def is_inside_below(curve, part):
    """Whether the inside of a curve, as a form, is below its arc of this part."""
    if curve[0] == "circle":
        return part == 1
    return curve[2][0] > 0


def points_of_faces(parting):
    """The list of a point of fractions in the first gap of each face."""
    points = []
    for column, faces in enumerate(parting.faces):
        x = sample_of(parting.events, column)
        heights = ascending([height for _, height in heights_at(parting.curves, x)], compared)
        for gap, face in enumerate(faces):
            if face == len(points):
                points.append((x, sample_of(heights, gap)))
    return points


def height_beside(curves, key, place):
    """-1, 0 or 1 as a place is below, at or above the arc or the end that a key tells over or at its x."""
    index, part = key
    curve = curves[index]
    side = side_of(curve, place)
    if curve[0] == "line":
        return side if curve[2][0] > 0 else -side
    if side < 0:
        return -part
    height = compared(place[1], curve[2])
    return 0 if side == 0 and height == part else height


def location(parting, place):
    """The pair of "corner", "edge" or "face" and the index of the one in which a place is."""
    if place in parting.corners:
        return ("corner", parting.corners.index(place))
    sides = [compared(number, place[0]) for number in parting.events]
    column = sides.count(-1)
    if 0 in sides:
        return location_at(parting, column, place)
    heights = [height_beside(parting.curves, arc, place) for arc in parting.stacks[column]]
    if 0 in heights:
        return ("edge", parting.arcs[column][heights.index(0)])
    return ("face", parting.faces[column][heights.count(1)])


def location_at(parting, event, place):
    """The same for a place with x at an event that is no corner."""
    wall = parting.walls[event]
    heights = [height_beside(parting.curves, keys[0], place) for keys in wall.points]
    if 0 in heights:
        column, k = arcs_at(parting.walls, event, heights.index(0))[0]
        return ("edge", parting.arcs[column][k])
    gap = heights.count(1)
    if wall.upright is not None:
        return ("edge", parting.posts[event][gap])
    return ("face", parting.faces[event][wall.left[gap]])


def faces_around(parting, corner):
    """The ascending tuple of the indexes of the faces that touch a corner."""
    event = parting.events.index(parting.corners[corner][0])
    wall = parting.walls[event]
    point = wall.corners.index(corner)
    left = parting.faces[event][wall.left[point]:wall.left[point + 1] + 1]
    right = parting.faces[event + 1][wall.right[point]:wall.right[point + 1] + 1]
    return tuple(sorted(set(left + right)))
