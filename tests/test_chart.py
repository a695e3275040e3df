"""Corners, edges, faces and where places are in them ([10] to [14], [22])."""

import random
import unittest
from fractions import Fraction
from math import atan2

from planehall.chart import corners, edges, faces, locate, touching
from planehall.columns import events
from planehall.curves import crossings, form_of, sign_at
from planehall.roots import order
from tests.helpers import (
    FLOOR, HALF, MINUS, NIL, ONE, POST, RING, ROOT_THREE, ROOT_TWO, THREE, TWO, Told, circle, decimal, fraction, kind_of, line, point,
)
from tests.oracle import bends_at, meets_segment, parts_in_order, side_row, some_curves

CROSS = (RING, FLOOR)
SLOPE, FALL = line(1, -1, 0), line(1, 1, 0)
BIG = 10 ** 150
# Through (0, 0): lines of all kinds, circles that cross there or touch from one side, from the other, inside one another.
THROUGH = (
    FLOOR, POST, SLOPE, FALL, circle(0, 1, 1), circle(0, -1, 1), circle(0, 2, 4), circle(1, 0, 1), circle(-2, 0, 4),
)


def fractions_of(place):
    return (fraction(place[0]), fraction(place[1]))


class Checks(Told):
    """All that the document says of a chart, each by another way than the package goes."""

    def check(self, curves):
        self.check_parts(curves)
        told = (corners(curves), edges(curves), faces(curves))
        self.check_order(curves, *told)
        self.check_touching(curves, *told)

    def check_parts(self, curves):
        told = (corners(curves), edges(curves), faces(curves))
        self.check_kinds(told)
        self.check_corners(curves, told[0])
        self.check_round_number(curves, *told)
        self.check_points(curves, told[2])
        self.check_sides(curves, told[1], told[2])
        for index in range(len(curves)):
            self.check_ends(curves, told[0], [edge for edge in told[1] if edge[0] == index], index)

    def check_kinds(self, told):
        for part in told:
            self.assertIs(kind_of(part), tuple)
        for edge in told[1]:
            self.assertEqual((kind_of(edge), len(edge)), (tuple, 5))
            self.assertEqual({kind_of(edge[0]), kind_of(edge[3]), kind_of(edge[4])}, {int})
            self.assertLessEqual({kind_of(edge[1]), kind_of(edge[2])}, {int, kind_of(None)})

    def check_corners(self, curves, places):
        found = {place for k, curve in enumerate(curves) for other in curves[:k] for place in crossings(curve, other)}
        self.assertEqual(set(places), found)
        for low, high in zip(places, places[1:]):
            self.assertEqual(order(low[0], high[0]) or order(low[1], high[1]), -1)

    def check_round_number(self, curves, places, ways, points):
        """Euler on the sphere: with one far corner for all lines, and one on each circle without a corner."""
        lots = [{index} for index in range(len(curves))]
        through = [{k for k, curve in enumerate(curves) if sign_at(curve, place) == 0} for place in places]
        lines = {k for k, curve in enumerate(curves) if curve[0] == "line"}
        for shared in through + [lines]:
            joined = [lot for lot in lots if lot & shared]
            lots = [lot for lot in lots if not lot & shared] + ([set().union(*joined)] if joined else [])
        lone = [k for k, curve in enumerate(curves) if curve[0] == "circle" and not [shared for shared in through if k in shared]]
        many = len(places) + len(lone) + (1 if lines else 0)
        self.assertEqual(many - len(ways) + len(points), 1 + len(lots), curves)

    def check_points(self, curves, points):
        for index, place in enumerate(points):
            self.assertNotIn(0, [sign_at(curve, place) for curve in curves])
            self.assert_plain(locate(curves, place), ("face", index))
            self.assertEqual([len(place), len(place[0]), len(place[1])], [2, 2, 2])

    def check_order(self, curves, places, ways, points):
        """Edges and faces come in the order of their first arcs and gaps, each of which is found in one of them."""
        for index, place in enumerate(places):
            self.assert_plain(locate(curves, place), ("corner", index))
        on_edges, in_gaps = parts_in_order(curves, places)
        for word, spots, many in (("edge", on_edges, len(ways)), ("face", in_gaps, len(points))):
            seen = 0
            for place in spots:
                kind, index = locate(curves, place)
                self.assertEqual(kind, word)
                self.assertLessEqual(index, seen)
                seen = max(seen, index + 1)
                if word == "edge":
                    self.assertEqual(sign_at(curves[ways[index][0]], place), 0)
            self.assertEqual(seen, many)

    def check_sides(self, curves, ways, points):
        rows = [side_row(curves, *fractions_of(place)) for place in points]
        for index, _, _, inside, outside in ways:
            self.assertNotEqual(inside, outside)
            self.assertEqual((rows[inside][index], rows[outside][index]), (True, False))
            self.assertEqual(rows[inside][:index] + rows[inside][index + 1:], rows[outside][:index] + rows[outside][index + 1:])

    def check_ends(self, curves, places, own, index):
        """The edges of one curve: from corner to corner, all along it."""
        here = [k for k, place in enumerate(places) if sign_at(curves[index], place) == 0]
        ends = [edge[1:3] for edge in own]
        if curves[index][0] == "line":
            self.assertEqual(sorted(ends, key=str), sorted(zip([None] + here, here + [None]), key=str))
        elif len(here) < 2:
            self.assertEqual(ends, [(here[0], here[0])] if here else [(None, None)])
        else:
            self.assertEqual(len(ends), len(here))
            self.assertTrue(all(start < stop for start, stop in ends))
            # Round the middle from corner to corner; of two both edges have both.
            x, y = [decimal(part) for part in curves[index][1:3]]
            round_it = sorted(here, key=lambda k: atan2(decimal(places[k][1]) - y, decimal(places[k][0]) - x))
            wanted = [tuple(sorted(ends_of)) for ends_of in zip(round_it, round_it[1:] + round_it[:1])]
            self.assertEqual(sorted(ends), sorted(wanted))

    def check_touching(self, curves, places, ways, points):
        rows = [side_row(curves, *fractions_of(place)) for place in points]
        for corner, place in enumerate(places):
            told = touching(curves, corner)
            self.assertIs(kind_of(told), tuple)
            near = [locate(curves, point(x, y)) for x, y in bends_at(curves, place)]
            self.assertEqual({word for word, _ in near}, {"face"})
            self.assert_plain(told, tuple(sorted({index for _, index in near})))
            many = len([curve for curve in curves if sign_at(curve, place) == 0])
            self.assertLessEqual(len({rows[face] for face in told}), 2 * many)
            for edge in ways:
                if corner in edge[1:3]:
                    self.assertLessEqual(set(edge[3:]), set(told))


class ByHand(Checks, unittest.TestCase):
    def test_no_curves(self):
        self.assert_plain([corners(()), edges(()), len(faces(()))], [(), (), 1])
        for place in ((NIL, NIL), (ROOT_TWO, HALF), point(-BIG, 7)):
            self.assert_plain(locate((), place), ("face", 0))
        self.check(())

    def test_one_curve(self):
        self.assert_plain(edges((RING,)), ((0, None, None, 1, 0),))
        self.assert_plain(edges((FLOOR,)), ((0, None, None, 0, 1),))
        self.assert_plain(edges((POST,)), ((0, None, None, 0, 1),))
        self.assert_plain(edges((SLOPE,)), ((0, None, None, 1, 0),))
        for curve in (RING, FLOOR, POST, SLOPE, FALL, circle(1, -2, 7)):
            self.assert_plain([corners((curve,)), len(faces((curve,)))], [(), 2])
            self.check((curve,))

    def test_ring_and_floor(self):
        self.assert_plain(corners(CROSS), ((MINUS, NIL), (ONE, NIL)))
        self.assert_plain(edges(CROSS), ((1, None, 0, 0, 1), (0, 0, 1, 2, 0), (1, 0, 1, 2, 3), (0, 0, 1, 3, 1), (1, 1, None, 0, 1)))
        self.assert_plain([touching(CROSS, 0), touching(CROSS, 1)], [(0, 1, 2, 3), (0, 1, 2, 3)])
        self.assert_plain(edges(CROSS[::-1]), ((0, None, 0, 0, 1), (1, 0, 1, 2, 0), (0, 0, 1, 2, 3), (1, 0, 1, 3, 1), (0, 1, None, 0, 1)))
        self.check(CROSS)

    def test_upright_lines(self):
        # The post is parted by the ring, in order from below, between the first and the second column.
        curves = (RING, POST)
        self.assert_plain(corners(curves), ((NIL, MINUS), (NIL, ONE)))
        self.assert_plain(edges(curves), (
            (0, 0, 1, 1, 0), (1, None, 0, 0, 2), (1, 0, 1, 1, 3), (1, 1, None, 0, 2), (0, 0, 1, 3, 2)))
        self.assert_plain([touching(curves, 0), touching(curves, 1)], [(0, 1, 2, 3)] * 2)
        for place, wanted in (
            ((NIL, (-2, 1)), ("edge", 1)), ((NIL, NIL), ("edge", 2)), ((NIL, (2, 0, -1, True)), ("edge", 2)), ((NIL, ROOT_TWO), ("edge", 3)),
            ((MINUS, NIL), ("edge", 0)), ((ONE, NIL), ("edge", 4)), ((MINUS, ONE), ("face", 0)), ((ONE, ONE), ("face", 2)),
            (((-1, 2), NIL), ("face", 1)), ((HALF, NIL), ("face", 3)), ((NIL, ONE), ("corner", 1)),
        ):
            self.assert_plain(locate(curves, place), wanted)
        self.check(curves)
        self.check((POST, line(1, 0, 1), line(1, 0, -1), RING, FLOOR, circle(0, 0, 2)))
        self.check(tuple(line(1, 0, k) for k in range(-4, 5)))

    def test_touched_from_outside(self):
        curves = (RING, circle(2, 0, 1))
        self.assert_plain(corners(curves), ((ONE, NIL),))
        self.assert_plain(edges(curves), ((0, 0, 0, 1, 0), (1, 0, 0, 2, 0)))
        self.assert_plain(touching(curves, 0), (0, 1, 2))
        for other in (line(1, 0, 1), line(1, 0, -1), line(0, 1, 1), line(0, 1, -1), line(3, 4, 5), circle(0, 3, 4), circle(0, -2, 1)):
            self.check((RING, other))
            self.check((other, RING))

    def test_touched_from_inside(self):
        curves = (RING, circle(Fraction(1, 2), 0, Fraction(1, 4)))
        self.assert_plain(edges(curves), ((0, 0, 0, 1, 0), (1, 0, 0, 2, 1)))
        self.assert_plain(touching(curves, 0), (0, 1, 2))
        for other in (circle(0, Fraction(1, 2), Fraction(1, 4)), circle(1, 0, 4), circle(0, -1, 4), circle(Fraction(3, 10), Fraction(2, 5), Fraction(1, 4))):
            self.check((RING, other))
            self.check((other, RING, FLOOR, POST))

    def test_circles_with_one_middle(self):
        curves = (RING, circle(0, 0, 2), circle(0, 0, Fraction(1, 4)))
        self.assert_plain([corners(curves), edges(curves)], [(), ((1, None, None, 1, 0), (0, None, None, 2, 1), (2, None, None, 3, 2))])
        for place, wanted in (
            ((NIL, NIL), ("face", 3)), ((NIL, (3, 4)), ("face", 2)), ((ROOT_TWO, NIL), ("edge", 0)), ((ONE, ONE), ("edge", 0)),
            ((ONE, HALF), ("face", 1)), ((ROOT_THREE, NIL), ("face", 0)), ((NIL, ONE), ("edge", 1)), ((HALF, NIL), ("edge", 2)),
        ):
            self.assert_plain(locate(curves, place), wanted)
        self.check(curves)
        self.check(curves + (FLOOR, SLOPE, circle(3, 0, 4)))

    def test_circles_that_end_at_one_x(self):
        curves = (circle(0, 0, 1), circle(2, 3, 1), circle(0, 5, 1), circle(2, -4, 1), circle(3, 1, 4), circle(-1, -2, 4))
        self.assertIn(ONE, events(curves))
        self.check(curves)
        self.check(curves[:4] + (circle(2, 0, 1), line(1, 0, 1), FLOOR))

    def test_circle_with_three_and_more_corners(self):
        curves = (RING, line(1, 0, 1), line(0, 1, 1), line(1, 0, -1))
        self.assert_plain(corners(curves), ((MINUS, NIL), (MINUS, ONE), (NIL, ONE), (ONE, NIL), (ONE, ONE)))
        self.assert_plain([edge[1:3] for edge in edges(curves) if edge[0] == 0], [(0, 3), (0, 2), (2, 3)])
        self.check(curves)
        self.check((RING, FLOOR, POST, SLOPE, FALL))

    def test_nine_through_one_corner(self):
        at = corners(THROUGH).index((NIL, NIL))
        # Nine curves have eighteen branches, of which no two are one: as many sectors, some of one face.
        self.check(THROUGH)
        self.assertGreaterEqual(len(touching(THROUGH, at)), 14)
        self.check(THROUGH[::-1])

    def test_one_corner_of_lines_alone(self):
        curves = (FLOOR, POST, SLOPE, FALL)
        self.assert_plain([corners(curves), touching(curves, 0), len(faces(curves))], [((NIL, NIL),), tuple(range(8)), 8])
        self.assert_plain(edges(curves)[3:5], ((1, None, 0, 0, 4), (1, 0, None, 3, 7)))
        self.check(curves)

    def test_a_face_on_both_sides_of_a_circle_comes_together(self):
        # Above and below the ring are one face: its first gap is the one of column 0.
        self.assert_plain([locate((RING,), (NIL, THREE)), locate((RING,), (NIL, (-3, 1)))], [("face", 0)] * 2)
        curves = (RING, line(1, 0, 1))
        self.assert_plain([locate(curves, (NIL, THREE)), locate(curves, (TWO, NIL)), locate(curves, (ONE, THREE))], [("face", 0), ("face", 2), ("edge", 2)])

    def test_faces_of_one_row(self):
        # Each row has one face, but where a strip crosses rings what is above and what is below does not hang together.
        for curves, many in (
            ((RING, FLOOR), 0), ((circle(0, 0, 4), line(1, 0, 0), circle(0, 0, 1)), 0), ((circle(0, 0, 4), circle(4, 0, 16), FLOOR), 0),
            ((circle(0, 0, 4), circle(3, 0, 2), circle(-3, 0, 2)), 0), ((circle(0, 0, 25), circle(0, 1, 26), circle(0, -1, 26)), 0),
            ((RING, circle(0, 0, 4), line(1, 0, Fraction(1, 2)), line(2, 0, -1)), 2), ((circle(0, 0, 4), line(2, 0, 1), RING), 0),
        ):
            formed = tuple(form_of(curve) for curve in curves)
            rows = [tuple(sign_at(curve, place) for curve in formed) for place in faces(formed)]
            self.assertEqual(len(rows), len(set(rows)) + many, curves)
            self.check(formed)

    def test_places_of_roots(self):
        curves = (RING, SLOPE, circle(1, 0, 1), line(2, 0, 1))
        root, other = (2, 0, -1, True), (4, 0, -3, True)
        told = corners(curves)
        self.assert_plain(locate(curves, (root, root)), ("corner", told.index((root, root))))
        self.assert_plain(locate(curves, (HALF, other)), ("corner", told.index((HALF, other))))
        kind, index = locate(curves, (root, (2, 0, -1, False)))
        self.assertEqual((kind, edges(curves)[index][0]), ("edge", 0))
        kind, index = locate(curves, (ROOT_TWO, ROOT_TWO))
        self.assertEqual((kind, edges(curves)[index][:3]), ("edge", (1, told.index((ONE, ONE)), None)))
        self.assert_plain(locate(curves, (ROOT_TWO, (1, 0, -2, False)))[0], "face")
        self.check(curves)

    def test_nearly_one_place(self):
        small = Fraction(1, BIG)
        for curves in (
            (RING, line(0, 1, 1 - small)), (RING, line(0, 1, 1 + small)), (RING, circle(2 - small, 0, 1), line(1, 0, 1)),
            (FLOOR, POST, line(BIG, BIG, 1)), (RING, circle(small, small, 1)),
        ):
            formed = tuple(form_of(curve) for curve in curves)
            told = (corners(formed), edges(formed), faces(formed))
            self.check_round_number(formed, *told)
            self.check_points(formed, told[2])
            self.check_sides(formed, told[1], told[2])


class Many(Checks, unittest.TestCase):
    def test_many_rows_of_curves(self):
        chance = random.Random(41)
        for many, times in ((2, 16), (3, 14), (4, 10), (5, 5), (6, 3), (7, 2), (8, 1), (9, 1)):
            for _ in range(times):
                self.check(some_curves(chance, many))

    def test_nine_circles(self):
        chance = random.Random(42)
        for _ in range(2):
            self.check_parts(tuple(circle(chance.randint(-9, 9), chance.randint(-9, 9), chance.randint(40, 160)) for _ in range(9)))

    def test_ways_that_meet_no_curve_stay_in_one_face(self):
        chance = random.Random(43)
        seen = {0: 0, 1: 0}
        for _ in range(60):
            curves = some_curves(chance, chance.randint(1, 6))
            for _ in range(25):
                start = (Fraction(chance.randint(-40, 40), 13), Fraction(chance.randint(-40, 40), 13))
                stop = (start[0] + Fraction(chance.randint(-20, 20), 17), start[1] + Fraction(chance.randint(-20, 20), 17))
                met = [curve for curve in curves if meets_segment(curve, start, stop)]
                told = [locate(curves, point(*start)), locate(curves, point(*stop))]
                if not met:
                    seen[0] += 1
                    self.assertEqual(told[0], told[1])
                    self.assertEqual(told[0][0], "face")
                elif len(met) == 1 and sum(sign_at(met[0], point(*end)) for end in (start, stop)) == 0 and told[0][0] == told[1][0] == "face":
                    seen[1] += 1
                    self.assertNotEqual(told[0], told[1])
        self.assertGreater(min(seen.values()), 100)

    def test_places_of_a_grid(self):
        """A place is in a corner, an edge or a face as it is on several, one or none of the curves, with its sides."""
        chance = random.Random(44)
        for _ in range(12):
            curves = some_curves(chance, chance.randint(1, 6))
            told = (corners(curves), edges(curves), faces(curves))
            rows = [tuple(sign_at(curve, place) for curve in curves) for place in told[2]]
            for x in (Fraction(k, 2) for k in range(-6, 7)):
                for y in (Fraction(k, 2) for k in range(-6, 7)):
                    place = point(x, y)
                    row = tuple(sign_at(curve, place) for curve in curves)
                    kind, index = locate(curves, place)
                    self.assertEqual(kind, ("face", "edge", "corner")[min(row.count(0), 2)])
                    if kind == "face":
                        self.assertEqual(rows[index], row)
                    elif kind == "corner":
                        self.assertEqual(told[0][index], place)
                    else:
                        self.check_on_edge(told[1][index], rows, row)

    def check_on_edge(self, edge, rows, row):
        index = row.index(0)
        self.assertEqual(edge[0], index)
        self.assertEqual(rows[edge[3]], row[:index] + (-1,) + row[index + 1:])
        self.assertEqual(rows[edge[4]], row[:index] + (1,) + row[index + 1:])

    def test_curves_in_another_order(self):
        """Faces and edges keep their order, only the indexes of curves change."""
        chance = random.Random(45)
        for _ in range(25):
            curves = some_curves(chance, 5)
            turned = curves[::-1]
            self.assert_plain(corners(turned), corners(curves))
            self.assert_plain(edges(turned), tuple((4 - edge[0],) + edge[1:] for edge in edges(curves)))
            self.assertEqual(len(faces(turned)), len(faces(curves)))
            for index, place in enumerate(faces(curves)):
                self.assert_plain(locate(turned, place), ("face", index))
            for corner in range(len(corners(curves))):
                self.assert_plain(touching(turned, corner), touching(curves, corner))

    def test_a_needless_curve_parts_or_leaves_faces(self):
        chance = random.Random(46)
        for _ in range(25):
            curves = some_curves(chance, 5)
            fewer = curves[:-1]
            parts = [locate(fewer, place) for place in faces(curves)]
            self.assertEqual({index for _, index in parts}, set(range(len(faces(fewer)))))
            self.assertEqual({word for word, _ in parts}, {"face"})


if __name__ == "__main__":
    unittest.main()
