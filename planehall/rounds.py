"""Rims and bodies of what is in on some faces of a chart, without checks (DOC.md [36] to [39]).

An arm is told as (way, bend, piece, does_set_out): the way in which it leaves
its corner, a pair of numbers of the corner's field; how it bends to the left, a
fraction of which the root tells how much; the index of its piece, and whether
this sets out there.
"""

from planehall.meets import cross
from planehall.parting import edges_of, numbered
from planehall.pieces import pieces_around
from planehall.surds import compared, negative, reduced, sign_of, subtract
from planehall.sweep import ascending

NIL = (0, 1)


class Rounds:
    """The rims and bodies of what is in on some faces of a chart.

    pieces are told by indexes (see pieces), nexts has the next of each, or
    None; rims are in order; bodies has for each face the number of its body, a
    number of its own for each face that is out.
    """

    def __init__(self, parting, truths):
        self.parting = parting
        self.truths = truths
        self.pieces = pieces_around(parting, truths)
        self.nexts = nexts_of(parting, self.pieces)
        self.rims = rims_of(self.nexts)
        self.bodies = lots_of_faces(edges_of(parting), truths)


def nexts_of(parting, pieces):
    """The list of the next of each piece: itself for one without ends on a circle, None for one that goes out."""
    nexts = []
    for k, (index, _, start, _, _) in enumerate(pieces):
        is_whole_circle = parting.curves[index][0] == "circle" and start is None
        nexts.append(k if is_whole_circle else None)
    for arms in arms_by_corner(parting, pieces).values():
        # Turning right from an arm one comes to the one ahead of it, from the first one to the last one.
        for at, (_, _, piece, does_set_out) in enumerate(arms):
            if not does_set_out:
                nexts[piece] = arms[at - 1][2]
    return nexts


def arms_by_corner(parting, pieces):
    """The dict of the arms at each corner, in the order in which one comes to them turning left."""
    found = {}
    for k, (index, is_inside, start, stop, _) in enumerate(pieces):
        curve = parting.curves[index]
        # On leaving backwards from where it arrives a piece has its inside on the other side.
        for corner, is_left, does_set_out in ((start, is_inside, True), (stop, not is_inside, False)):
            if corner is not None:
                way = way_along(curve, is_left, parting.corners[corner])
                found.setdefault(corner, []).append((way, bend_of(curve, is_left), k, does_set_out))
    return {corner: ascending(arms, compared_arms) for corner, arms in found.items()}


def way_along(curve, is_left, place):
    """The way along a curve from a place on it, its inside being on the left if told so, otherwise on the right."""
    kind, a, b, _ = curve
    first, second = (a, b) if kind == "line" else (subtract(place[0], a), subtract(place[1], b))
    return (negative(second), first) if is_left else (second, negative(first))


def bend_of(curve, is_left):
    """1 over the square of a circle's radius, less than 0 if one turns right along it; 0 for a line."""
    if curve[0] == "line":
        return NIL
    top, bottom = curve[3]
    return reduced(bottom if is_left else -bottom, top)


def is_behind_half(way):
    """Whether one turns left from (1, 0) by half a round or more to a way."""
    height = sign_of(way[1])
    return height < 0 or (height == 0 and sign_of(way[0]) < 0)


def compared_ways(way, other):
    """-1, 0 or 1 as turning left from (1, 0) one comes to the first way ahead of, with or behind the other one."""
    first, second = is_behind_half(way), is_behind_half(other)
    if first != second:
        return 1 if first else -1
    return -sign_of(cross(way[0], way[1], other[0], other[1]))


def compared_arms(arm, other):
    return compared_ways(arm[0], other[0]) or compared(arm[1], other[1])


def rims_of(nexts):
    """The list of all rims for the nexts of the pieces, in order."""
    follows = {after: True for after in nexts if after is not None}
    done, found = {}, []
    # From pieces that are the next of none rims go out without end; all that they leave goes round.
    for first in [k for k in range(len(nexts)) if k not in follows] + list(range(len(nexts))):
        row, at = [], first
        while at is not None and at not in done:
            done[at] = True
            row.append(at)
            at = nexts[at]
        if row:
            found.append((tuple(row), first in follows))
    return [(is_closed, indexes) for indexes, is_closed in sorted(found)]


def lots_of_faces(edges, truths):
    """The list of the numbers of the lots in which the faces that are in hang together; others are lots alone."""
    pairs = [((0, inside), (0, outside)) for _, _, _, inside, outside in edges if truths[inside] and truths[outside]]
    return numbered([len(truths)], pairs)[0]


def many_faces(parting):
    """How many faces a chart has."""
    return 1 + max([max(row) for row in parting.faces])


def far_faces(parting):
    """The dict of the faces that lie in no disc."""
    found = {face: True for face in parting.faces[0] + parting.faces[-1]}
    for row in parting.faces:
        found[row[0]] = True
        found[row[-1]] = True
    return found


def bodies_by_rims(rounds, points):
    """The list of the bodies as (POINT, ROW, IS_BOUNDED, HOLES), in order; points tell one in each face."""
    far = {rounds.bodies[face]: True for face in far_faces(rounds.parting)}
    first = {}
    for face, is_in in enumerate(rounds.truths):
        if is_in:
            first.setdefault(rounds.bodies[face], points[face])
    rows = {body: [] for body in first}
    closed = {body: 0 for body in first}
    for k, (is_closed, indexes) in enumerate(rounds.rims):
        body = rounds.bodies[rounds.pieces[indexes[0]][4]]
        rows[body].append(k)
        closed[body] += 1 if is_closed else 0
    found = []
    for body, point in first.items():
        is_bounded = body not in far
        found.append((tuple(rows[body]), point, is_bounded, closed[body] - (1 if is_bounded else 0)))
    return [(point, row, is_bounded, holes) for row, point, is_bounded, holes in sorted(found)]
