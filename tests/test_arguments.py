"""Which values each function takes, and what it raises for all others, in which order ([3], [4], [5])."""

import inspect
import itertools
import unittest

from planehall import (
    certificates, chart, checker, columns, compare, console, curves, errors, figures, images, leads, letters, lines, meaning, measures, models,
    nearest, pictures, printer, reader, rimform, rims, roots, rows, sketches, words,
)
from tests.helpers import (
    FLOOR, HALF, MINUS, NIL, ONE, POST, RING, ROOT_THREE, ROOT_TWO, STRAY, THREE, TWO, Told, kind_of, raised, spoilt,
)

BIG = 10 ** 400
NUMBERS = (NIL, HALF, (-7, 3), ROOT_TWO, (3, -5, 1, False), (1, 0, -(10 ** 399) - 1, True))
NO_FRACTIONS = ((2, 4), (0, 2), (1, 0), (0, 0), (1, -2), (-3, -3), (6, 3), (BIG, BIG), (1, 2, 3), (1,), (0, -1))
NO_ROOTS = (
    (1, 0, -4, True), (2, 4, -6, True), (-1, 0, 2, True), (0, 1, 2, True), (1, 0, 2, True), (1, 2, 1, True),
    (1, 0, 0, False), (2, 0, -4, False), (1, 0, -2, 1), (1, 0, -2, 0), (1, 0, -2), (1, 0, -2, True, True),
    (0, 0, -2, True), (6, 0, -3, True), (1, -3, 2, False), (0, 0, 0, True), (1, 0, -BIG, True), (3, 0, -12, True),
)
NO_NUMBERS = STRAY + NO_FRACTIONS + NO_ROOTS + (0, 1, -1, BIG)
NO_FRACTION_AT_ALL = NO_NUMBERS + NUMBERS[3:]
NO_COUNTS = STRAY + (0, -1, 10 ** 6 + 1, BIG, -BIG, (1, 1), (2, 1))
POINTS = ((NIL, HALF), ((-1, 3), (22, 7)))
NO_POINTS = STRAY + (
    NIL, (NIL,), (NIL, NIL, NIL), (NIL, (2, 2)), ((1, 0), NIL), (ROOT_TWO, NIL), (NIL, ROOT_TWO), (0, 0), (1, 2),
    [NIL, ONE], ([0, 1], ONE), (NIL, [0, 1]), ((False, 1), ONE), (ONE, (0, True)),
)
PLACES = POINTS + ((ROOT_TWO, NIL), (ROOT_TWO, (2, 0, -1, False)), (HALF, (1, 1, -1, True)))
NO_PLACES = STRAY + (
    (ROOT_TWO, ROOT_THREE), (ROOT_TWO, NIL, NIL), (ROOT_TWO,), (ROOT_TWO, (1, 0, -2, 1)), (NIL, (2, 2)), (NIL, (2, 0, -4, True)),
    ((1, 0, -5, True), (1, 1, -3, True)), [ROOT_TWO, NIL], (list(ROOT_TWO), NIL), NIL, ROOT_TWO,
)
CURVES = (RING, FLOOR, POST, ("line", (-3, 2), (1, 7), (5, 6)), ("circle", (-1, 2), THREE, (1, 9)))
NO_CURVES = STRAY + (
    ("line", NIL, NIL, NIL), ("line", NIL, NIL, ONE), ("circle", NIL, NIL, NIL), ("circle", NIL, NIL, MINUS),
    ("line", ROOT_TWO, ONE, NIL), ("circle", NIL, NIL, ROOT_TWO), ("Line", ONE, ONE, ONE), ("half", ONE, ONE, ONE),
    ("disc", ONE, ONE, ONE), ("line", ONE, ONE), ("line", ONE, ONE, ONE, ONE), (ONE, ONE, ONE, ONE), ["line", ONE, ONE, ONE],
    ("line", [1, 1], ONE, ONE), ("circle", NIL, NIL, True), ("circle", 0, 0, 1), ("line", (2, 2), ONE, ONE),
    ("line", (True, 1), NIL, NIL), ("circle", NIL, NIL, (1, True)), ("circle", ("line", ONE, ONE), NIL, ONE),
)
LINES = (FLOOR, POST, CURVES[3], ("line", MINUS, NIL, (7, 3)))
CIRCLES = (RING, CURVES[4])
WAYS = POINTS + ((NIL, MINUS), (HALF, NIL))
LEADS = ((ONE, NIL, False, (NIL, NIL)), (NIL, (-1, 2), True, (HALF, MINUS)), ((3, 5), (4, 5), False, (NIL, ONE)))
NO_LEADS = STRAY + (
    (NIL, NIL, False, (NIL, NIL)), (NIL, NIL, True, (ONE, ONE)), (ONE, NIL, 0, (NIL, NIL)), (ONE, NIL, False, NIL), (ONE, NIL, False),
    (ONE, NIL, False, (NIL, NIL), ONE), (ROOT_TWO, NIL, False, (NIL, NIL)), (ONE, (2, 2), False, (NIL, NIL)), (ONE, NIL, False, (ROOT_TWO, NIL)),
    [ONE, NIL, False, (NIL, NIL)], (ONE, NIL, False, [NIL, NIL]), (1, 0, False, (NIL, NIL)), (ONE, NIL, None, (NIL, NIL)), ONE, (ONE, NIL),
)
DISC, LOW = ("disc", NIL, NIL, ONE), ("half", NIL, ONE, NIL)
FIGURES = (
    ("all",), ("none",), DISC, LOW, ("box", (NIL, NIL), (ONE, TWO)), ("polygon", ((NIL, NIL), (ONE, NIL), (NIL, ONE))), ("join", DISC, LOW),
    ("common", DISC, ("all",)), ("less", ("none",), LOW), ("outside", DISC), ("led", LEADS[1], LOW), ("repeat", 2, (ONE, NIL), DISC),
)
NO_FIGURES = STRAY + POINTS + CURVES + LEADS + (
    ("ALL",), ("everything",), ("all", ("all",)), ("name", "a"), ("half", NIL, NIL, ONE), ("disc", NIL, NIL, NIL), ("disc", NIL, NIL, ROOT_TWO),
    ("box", (ONE, NIL), (NIL, ONE)), ("box", (NIL, NIL), (ONE, NIL)), ("polygon", ((NIL, NIL), (NIL, ONE), (ONE, NIL))),
    ("polygon", ((NIL, NIL), (ONE, NIL), (TWO, NIL))), ("repeat", 0, (ONE, NIL), DISC), ("repeat", 7, (ONE, NIL), DISC), ("repeat", True, (ONE, NIL), DISC),
    ("led", (NIL, NIL, False, (NIL, NIL)), DISC), ("outside", ("outside", None)), ("join", DISC, ("disc", NIL, NIL, MINUS)), ("join", [DISC], LOW),
)
NAMES = ("a", "z", "a_1", "a_", "boxes", "lets", "x" * 24, "b0123456789_")
NO_NAMES = tuple(value for value in STRAY if value != "line") + (
    "all", "none", "half", "disc", "box", "polygon", "not", "move", "scale", "turn", "mirror", "lead", "flip", "repeat", "let",
    "x" * 25, "A", "aB", "_a", "1a", "1", "_", "a-b", "a b", " a", "a ", "a.", "a#", "a\n", "\u00e4", "a\u0660", "\u00e9a", ("a",), ["a"], b"a",
)
NAME_A, NAME_B = ("name", "a"), ("name", "b")
SKETCHES = FIGURES + (
    NAME_A, ("name", "x" * 24), ("join", NAME_A, DISC), ("common", NAME_B, NAME_A), ("less", LOW, ("outside", NAME_A)), ("led", LEADS[1], NAME_A),
    ("repeat", 6, (ONE, NIL), NAME_A),
)
NO_SKETCHES = tuple(value for value in NO_FIGURES if value != NAME_A) + tuple(("name", wrong) for wrong in NO_NAMES) + (
    ("name",), ("name", "a", "b"), ("NAME", "a"), ["name", "a"], "a", ("outside", "a"), ("join", NAME_A), ("join", NAME_A, None),
)
BOOK = (("a", DISC), ("b", ("outside", NAME_A)))
MOON = ((("a", DISC),), ("less", NAME_A, LOW))
SCENES = (((), DISC), MOON, (BOOK, NAME_B), (BOOK, LOW), ((("a", DISC), ("c", NAME_A), ("b", ("join", NAME_A, ("name", "c")))), NAME_B))
NO_BOOKS = tuple(value for value in STRAY if value != ()) + (
    (("a", NAME_A),), (("a", NAME_B),), (("a", NAME_B), ("b", DISC)), (("a", DISC), ("a", LOW)), (("a", DISC), ("a", DISC)), (("box", DISC),), (("A", DISC),),
    ((DISC, "a"),), (("a",),), (("a", DISC, LOW),), ("a", DISC), (("a", "disc"),), (("a", ("disc", NIL, NIL, NIL)),), [("a", DISC)], (["a", DISC],), {"a": DISC},
    (("a", DISC), None), (("x" * 25, DISC),), (("a", DISC), ("b", ("common", NAME_A, ("name", "c")))), ((None, DISC),), (((), DISC),),
)
NO_SCENES = tuple((wrong, DISC) for wrong in NO_BOOKS) + tuple((BOOK, wrong) for wrong in NO_SKETCHES) + STRAY + SKETCHES + (
    (), (BOOK,), (DISC,), (BOOK, DISC, LOW), [BOOK, DISC], (BOOK, ("name", "c")), ((), NAME_A), (DISC, BOOK), BOOK, (BOOK, ("outside", ("name", "c"))),
)


def all_spoilt(values):
    return [wrong for value in values for wrong in spoilt(value)]


NUMBER = (errors.InvalidNumber, NO_NUMBERS, NUMBERS)
FRACTION = (errors.InvalidFraction, NO_FRACTION_AT_ALL + ((-1, 1), (-1, BIG)), NUMBERS[:2])
COUNT = (errors.InvalidCount, NO_COUNTS, ())
POINT = (errors.InvalidPoint, NO_POINTS, POINTS)
PLACE = (errors.InvalidPlace, NO_PLACES, PLACES)
CURVE = (errors.InvalidCurve, NO_CURVES, CURVES)
WAY = (errors.InvalidWay, NO_POINTS + ((NIL, NIL),), WAYS)
LEAD = (errors.InvalidLead, NO_LEADS, LEADS)
LINE = (errors.InvalidCurve, NO_CURVES + CIRCLES, LINES)
FIGURE = (errors.InvalidFigure, NO_FIGURES, FIGURES)
SKETCH = (errors.InvalidSketch, NO_SKETCHES, FIGURES)
NAME = (errors.InvalidName, NO_NAMES, ())
SCENE = (errors.InvalidScene, NO_SCENES, ())
ANY_FRACTION = (errors.InvalidFraction, NO_FRACTION_AT_ALL, NUMBERS[:3])
LOW_POINT = (errors.InvalidPoint, NO_POINTS, ((MINUS, (-2, 1)),))
HIGH = (errors.InvalidPoint, NO_POINTS + (
    (MINUS, MINUS), (NIL, MINUS), (MINUS, NIL), (ONE, (-2, 1)), ((-2, 1), ONE), ((-3, 2), (-3, 2)), (ONE, (-1001, 1000))), ())
LETTERS = (errors.InvalidCount, STRAY + (0, -1, 49, 50, 10 ** 6, BIG, -BIG, (1, 1)), ())
SQUARE = FIGURES[4]
# Figures for which the functions that want a bounded one, with something in it, or a straight one, tell no error of their own.
ROUND = (errors.InvalidFigure, NO_FIGURES, (DISC, SQUARE, FIGURES[5], ("common", DISC, LOW), FIGURES[11]))
STRAIGHT = (errors.InvalidFigure, NO_FIGURES, (SQUARE, FIGURES[5], ("led", LEADS[1], SQUARE), ("repeat", 2, (ONE, NIL), SQUARE)))
FINE = (errors.InvalidCount, STRAY + (0, -1, 5, 6, 10 ** 6, BIG, -BIG, (1, 1)), ())
VIEWS = (((MINUS, ONE), HALF, 4, 4), ((NIL, (-22, 7)), (5, 3), 1, 48), ((ONE, ONE), (1, BIG), 48, 1))
NO_VIEWS = STRAY + POINTS + SCENES[:1] + (
    ((MINUS, ONE), HALF, 4), ((MINUS, ONE), HALF, 4, 4, 4), [(MINUS, ONE), HALF, 4, 4], ([MINUS, ONE], HALF, 4, 4), ((MINUS, ONE), NIL, 4, 4),
    ((MINUS, ONE), (-1, 2), 4, 4), ((MINUS, ONE), HALF, 0, 4), ((MINUS, ONE), HALF, 4, 0), ((MINUS, ONE), HALF, 49, 4), ((MINUS, ONE), HALF, 4, 49),
    ((MINUS, ONE), HALF, -1, 4), ((MINUS, ONE), HALF, True, 4), ((MINUS, ONE), HALF, 4, True), ((MINUS, ONE), (2, 4), 4, 4), ((MINUS, ONE), 1, 4, 4),
    ((ROOT_TWO, ONE), HALF, 4, 4), ((MINUS, ONE), ROOT_TWO, 4, 4), ((MINUS, ONE), HALF, ONE, 4), (MINUS, ONE, HALF, 4, 4), ((MINUS, ONE), HALF, BIG, 4),
)
VIEW = (errors.InvalidView, NO_VIEWS, VIEWS)
# For a view of 3 dots from left to right, 2 from above.
FLAT_VIEW = ((NIL, NIL), ONE, 3, 2)
ROW_INDEX = (errors.InvalidIndex, STRAY + (-1, -2, 2, 3, BIG, -BIG, (0,), ONE), ())
COLUMN_INDEX = (errors.InvalidIndex, STRAY + (-1, -3, 3, 4, BIG, -BIG, (0,), ONE), ())
PIECE_INDEX = (errors.InvalidIndex, STRAY + (-1, -4, 4, 5, BIG, -BIG, (0,), ONE), ())
# Each function with its parameters: the name, a value that is let, what is raised for which others.
TABLE = (
    (roots.root_of, (("fraction", TWO, FRACTION),)),
    (roots.order, (("number", ROOT_TWO, NUMBER), ("other", ROOT_THREE, NUMBER))),
    (roots.lie_in_one, (("number", ROOT_TWO, NUMBER), ("other", ROOT_THREE, NUMBER))),
    (roots.plus, (("number", ROOT_TWO, NUMBER), ("other", HALF, NUMBER))),
    (roots.less, (("number", ROOT_TWO, NUMBER), ("other", HALF, NUMBER))),
    (roots.times, (("number", ROOT_TWO, NUMBER), ("other", HALF, NUMBER))),
    (roots.near, (("number", ROOT_TWO, NUMBER), ("many", 10, COUNT))),
    (roots.between, (("number", ROOT_TWO, NUMBER), ("other", ROOT_THREE, NUMBER))),
    (curves.form_of, (("curve", RING, CURVE),)),
    (curves.sign_at, (("curve", RING, CURVE), ("place", (ROOT_TWO, NIL), PLACE))),
    (curves.crossings, (("curve", RING, CURVE), ("second", FLOOR, CURVE))),
    (curves.do_touch, (("curve", RING, CURVE), ("second", FLOOR, CURVE))),
    (curves.line_through, (("point", (NIL, ONE), POINT), ("second_point", (ONE, NIL), POINT))),
    (curves.circle_through, (
        ("one", (NIL, ONE), POINT), ("two", (ONE, NIL), POINT), ("three", (HALF, HALF), POINT))),
    (leads.led_place, (("lead", LEADS[1], LEAD), ("place", (ROOT_TWO, NIL), PLACE))),
    (leads.led_curve, (("lead", LEADS[1], LEAD), ("curve", RING, CURVE))),
    (leads.behind, (("lead", LEADS[1], LEAD), ("later", LEADS[2], LEAD))),
    (leads.back, (("lead", LEADS[1], LEAD),)),
    (leads.is_rigid, (("lead", LEADS[1], LEAD),)),
    (leads.move, (("shift", (HALF, ONE), POINT),)),
    (leads.turn, (("way", (HALF, ONE), WAY),)),
    (leads.mirror, (("curve", FLOOR, LINE),)),
    (figures.depth_of, (("figure", DISC, FIGURE),)),
    (figures.size_of, (("figure", DISC, FIGURE),)),
    (figures.bounds_of, (("figure", DISC, FIGURE),)),
    (figures.curves_of, (("figure", DISC, FIGURE),)),
    (figures.plain_of, (("figure", DISC, FIGURE),)),
    (figures.row_of, (("figure", DISC, FIGURE), ("place", (ROOT_TWO, NIL), PLACE))),
    (rimform.told_at, (("figure", DISC, FIGURE), ("place", (ROOT_TWO, NIL), PLACE))),
    (rimform.rim_edges, (("figure", DISC, FIGURE),)),
    (rimform.rim_form, (("figure", DISC, FIGURE),)),
    (meaning.is_free, (("figure", DISC, FIGURE), ("place", (ROOT_TWO, NIL), PLACE))),
    (meaning.telling, (("figure", DISC, FIGURE), ("place", (ROOT_TWO, NIL), PLACE))),
    (compare.is_empty, (("figure", DISC, FIGURE),)),
    (compare.inner_point, (("figure", DISC, FIGURE),)),
    (compare.is_same, (("figure", DISC, FIGURE), ("other", LOW, FIGURE))),
    (compare.parting_point, (("figure", DISC, FIGURE), ("other", LOW, FIGURE))),
    (compare.is_within, (("figure", DISC, FIGURE), ("other", LOW, FIGURE))),
    (compare.outer_point, (("figure", DISC, FIGURE), ("other", LOW, FIGURE))),
    (compare.are_apart, (("figure", DISC, FIGURE), ("other", LOW, FIGURE))),
    (compare.shared_point, (("figure", DISC, FIGURE), ("other", LOW, FIGURE))),
    (compare.is_bounded, (("figure", DISC, FIGURE),)),
    (compare.ray_of, (("figure", LOW, FIGURE),)),
    (words.fraction_text, (("fraction", HALF, ANY_FRACTION),)),
    (sketches.names_in, (("sketch", DISC, SKETCH),)),
    (sketches.renamed, (("sketch", DISC, SKETCH), ("name", "a", NAME), ("other_name", "b", NAME))),
    (sketches.scene_figure, (("scene", MOON, SCENE),)),
    (printer.sketch_text, (("sketch", DISC, SKETCH),)),
    (printer.scene_text, (("scene", MOON, SCENE),)),
    (letters.letters, (("figure", DISC, FIGURE), ("low", (MINUS, MINUS), LOW_POINT), ("high", (ONE, ONE), HIGH), ("count", 3, LETTERS))),
    (certificates.certify_telling, (("figure", DISC, FIGURE), ("place", (ROOT_TWO, NIL), PLACE))),
    (certificates.certify_empty, (("figure", DISC, FIGURE),)),
    (certificates.certify_same, (("figure", DISC, FIGURE), ("other", LOW, FIGURE))),
    (certificates.certify_within, (("figure", DISC, FIGURE), ("other", LOW, FIGURE))),
    (certificates.certify_apart, (("figure", DISC, FIGURE), ("other", LOW, FIGURE))),
    (certificates.certify_bounded, (("figure", DISC, FIGURE),)),
    (rims.rims, (("figure", DISC, FIGURE),)),
    (rims.next_piece, (("figure", SQUARE, (errors.InvalidFigure, NO_FIGURES, ())), ("index", 0, PIECE_INDEX))),
    (rims.bodies, (("figure", DISC, FIGURE),)),
    (rims.all_bounded, (("figure", DISC, FIGURE),)),
    (measures.straight_part, (("figure", DISC, ROUND),)),
    (measures.area_between, (("figure", DISC, ROUND), ("many", 10, COUNT))),
    (measures.length_between, (("figure", DISC, ROUND), ("many", 10, COUNT))),
    (measures.angle_between, (("way", (HALF, ONE), WAY), ("other_way", (ONE, NIL), WAY), ("many", 10, COUNT))),
    (measures.is_straight, (("figure", DISC, FIGURE),)),
    (measures.moments, (("figure", SQUARE, STRAIGHT),)),
    (measures.centre, (("figure", SQUARE, STRAIGHT),)),
    (lines.walk, (("figure", DISC, FIGURE), ("point", (HALF, ONE), POINT), ("way", (ONE, NIL), WAY))),
    (lines.first_met, (("figure", DISC, FIGURE), ("point", (TWO, NIL), POINT), ("way", (MINUS, NIL), WAY))),
    (lines.place_at, (("point", (HALF, ONE), POINT), ("way", (ONE, NIL), WAY), ("number", ROOT_TWO, NUMBER))),
    (lines.is_clear, (("figure", DISC, FIGURE), ("point", (TWO, NIL), POINT), ("other_point", (TWO, ONE), POINT))),
    (nearest.gap, (("figure", DISC, FIGURE), ("point", (TWO, NIL), POINT))),
    (nearest.nearest_place, (("figure", DISC, FIGURE), ("point", (TWO, NIL), POINT))),
    (nearest.reach, (("figure", DISC, ROUND), ("way", (HALF, ONE), WAY))),
    (nearest.farthest_place, (("figure", DISC, ROUND), ("way", (HALF, ONE), WAY))),
    (nearest.box_around, (("figure", DISC, ROUND),)),
    (pictures.dot_square, (("view", FLAT_VIEW, (errors.InvalidView, NO_VIEWS, ())), ("row", 1, ROW_INDEX), ("column", 2, COLUMN_INDEX))),
    (pictures.dots, (("figure", DISC, FIGURE), ("view", FLAT_VIEW, VIEW))),
    (pictures.covered, (("figure", DISC, FIGURE), ("view", FLAT_VIEW, VIEW))),
    (pictures.picture, (("figure", DISC, FIGURE), ("view", FLAT_VIEW, VIEW), ("fine", 2, FINE))),
)
ROW = (RING, FLOOR, POST, ("line", ONE, (-1, 1), NIL), ("circle", (1, 2), HALF, (9, 4)))
# Those of curves, with the second parameter, a value that is let, the error and values that are not.
EVENTS, CORNERS, FACES = 12, 15, 20
ROW_TABLE = (
    (columns.stack, "column", 0, errors.InvalidIndex, (-1, EVENTS + 1, EVENTS + 2, BIG, -BIG, (0,), (0, 1), [0], "0")),
    (columns.sample, "column", 0, errors.InvalidIndex, (-1, EVENTS + 1, EVENTS + 2, BIG, -BIG, (0,), (0, 1), [0], "0")),
    (columns.wall, "event", 0, errors.InvalidIndex, (-1, EVENTS, EVENTS + 1, BIG, -BIG, (0,), (0, 1), [0], "0")),
    (columns.gap_of, "point", (NIL, HALF), errors.InvalidPoint, NO_POINTS),
    (chart.locate, "place", (ROOT_TWO, NIL), errors.InvalidPlace, NO_PLACES),
    (rows.rows_near, "place", (ROOT_TWO, NIL), errors.InvalidPlace, NO_PLACES),
    (chart.touching, "corner", 0, errors.InvalidIndex, (-1, CORNERS, CORNERS + 1, BIG, -BIG, (0,), (0, 1), [0], "0")),
    (rims.face_rims, "face", 0, errors.InvalidIndex, (-1, FACES, FACES + 1, BIG, -BIG, (0,), (0, 1), [0], "0")),
    (rims.face_is_bounded, "face", 0, errors.InvalidIndex, (-1, FACES, FACES + 1, BIG, -BIG, (0,), (0, 1), [0], "0")),
    (rims.face_holes, "face", 0, errors.InvalidIndex, (-1, FACES, FACES + 1, BIG, -BIG, (0,), (0, 1), [0], "0")),
)
INTERFACE = (
    (roots, {
        "is_number": "value", "root_of": "fraction", "order": "number other", "lie_in_one": "number other",
        "plus": "number other", "less": "number other", "times": "number other", "near": "number many",
        "between": "number other"}),
    (curves, {
        "is_place": "value", "is_curve": "value", "form_of": "curve", "sign_at": "curve place",
        "crossings": "curve second", "do_touch": "curve second", "line_through": "point second_point",
        "circle_through": "one two three"}),
    (columns, {
        "events": "curves", "stack": "curves column", "sample": "curves column", "wall": "curves event",
        "gap_of": "curves point"}),
    (chart, {
        "corners": "curves", "edges": "curves", "faces": "curves", "locate": "curves place", "touching": "curves corner"}),
    (rimform, {"told_at": "figure place", "rim_edges": "figure", "rim_form": "figure"}),
    (leads, {
        "is_lead": "value", "led_place": "lead place", "led_curve": "lead curve", "behind": "lead later", "back": "lead",
        "is_rigid": "lead", "move": "shift", "turn": "way", "mirror": "curve"}),
    (figures, {
        "is_figure": "value", "depth_of": "figure", "size_of": "figure", "bounds_of": "figure", "curves_of": "figure",
        "plain_of": "figure", "truth_at": "figure row", "row_of": "figure place"}),
    (rows, {
        "rows_near": "curves place", "lone_curves": "curves", "rows_of": "curves", "point_with": "curves row", "samples_of": "curves",
        "are_samples": "curves points"}),
    (meaning, {"is_free": "figure place", "telling": "figure place"}),
    (compare, {
        "is_empty": "figure", "inner_point": "figure", "is_same": "figure other", "parting_point": "figure other", "is_within": "figure other",
        "outer_point": "figure other", "are_apart": "figure other", "shared_point": "figure other", "is_bounded": "figure", "ray_of": "figure"}),
    (words, {"words_of": "text", "is_free_name": "value", "fraction_text": "fraction"}),
    (sketches, {
        "is_sketch": "value", "is_scene": "value", "names_in": "sketch", "renamed": "sketch name other_name", "scene_figure": "scene"}),
    (reader, {"read_sketch": "text", "read_scene": "text", "read_book": "text", "read_figure": "text"}),
    (printer, {"sketch_text": "sketch", "book_text": "book", "scene_text": "scene"}),
    (models, {"model_of": "book"}),
    (letters, {"letters": "figure low high count"}),
    (console, {"run": "lines"}),
    (checker, {"accepts": "claim paper"}),
    (certificates, {
        "certify_telling": "figure place", "certify_empty": "figure", "certify_same": "figure other", "certify_within": "figure other",
        "certify_apart": "figure other", "certify_bounded": "figure", "certify_rows": "curves"}),
    (rims, {
        "rims": "figure", "next_piece": "figure index", "bodies": "figure", "all_bounded": "figure", "face_rims": "curves face",
        "face_is_bounded": "curves face", "face_holes": "curves face", "round_number": "curves"}),
    (measures, {
        "is_roots": "value", "roots_plus": "roots other_roots", "straight_part": "figure", "area_between": "figure many",
        "length_between": "figure many", "angle_between": "way other_way many", "is_straight": "figure", "moments": "figure", "centre": "figure"}),
    (lines, {"walk": "figure point way", "first_met": "figure point way", "place_at": "point way number", "is_clear": "figure point other_point"}),
    (nearest, {
        "gap": "figure point", "nearest_place": "figure point", "reach": "figure way", "farthest_place": "figure way", "box_around": "figure"}),
    (pictures, {
        "is_view": "value", "is_picture": "value", "dot_square": "view row column", "dots": "figure view", "covered": "figure view",
        "picture": "figure view fine", "picture_letters": "picture"}),
    (images, {
        "picture_text": "picture", "read_picture": "text", "picture_bytes": "picture", "read_bytes": "data", "check_number": "data",
        "sum_number": "data"}),
)
METHODS = {
    "put": "name sketch", "rename": "name other_name", "strike": "name", "undo": "", "redo": "", "names": "", "sketch": "name", "figure": "name",
    "uses": "name", "used_by": "name", "scene": "name", "book": "", "steps": "",
}
# Those of curves alone.
ROW_ALONE = (
    columns.events, chart.corners, chart.edges, chart.faces, rows.lone_curves, rows.rows_of, rows.samples_of, certificates.certify_rows,
    rims.round_number,
)


class Interface(unittest.TestCase):
    def test_names_and_parameters(self):
        for module, names in INTERFACE:
            for name, parameters in names.items():
                function = getattr(module, name)
                self.assertEqual(function.__module__, module.__name__)
                self.assertEqual(list(inspect.signature(function).parameters), parameters.split())
                for parameter in inspect.signature(function).parameters.values():
                    self.assertIs(parameter.kind, inspect.Parameter.POSITIONAL_OR_KEYWORD)

    def test_methods(self):
        self.assertEqual(list(inspect.signature(models.Model).parameters), [])
        for name, parameters in METHODS.items():
            method = vars(models.Model)[name]
            self.assertTrue(inspect.isfunction(method))
            told = inspect.signature(method).parameters
            self.assertEqual(list(told)[1:], parameters.split())
            for parameter in told.values():
                self.assertIs(parameter.kind, inspect.Parameter.POSITIONAL_OR_KEYWORD)

    def test_position_or_name_are_one(self):
        for function, parameters in TABLE:
            values = [value for _, value, _ in parameters]
            names = {name: value for name, value, _ in parameters}
            self.assertEqual(repr(function(*values)), repr(function(**names)))
            self.assertEqual(repr(function(*values)), repr(function(*values)))
        for function, name, value, _, _ in ROW_TABLE:
            self.assertEqual(repr(function(ROW, value)), repr(function(**{name: value, "curves": ROW})))
        for function in ROW_ALONE:
            self.assertEqual(repr(function(ROW)), repr(function(curves=ROW)))
        self.assertIs(figures.truth_at(DISC, (True,)), figures.truth_at(row=(True,), figure=DISC))


class ArgumentErrors(Told, unittest.TestCase):
    def test_each_wrong_value_of_each_argument(self):
        for function, parameters in TABLE:
            for spot, (name, _, (kind, stray, others)) in enumerate(parameters):
                values = [value for _, value, _ in parameters]
                names = {given: value for given, value, _ in parameters}
                for wrong in list(stray) + all_spoilt(others) + spoilt(values[spot]) * (kind not in (errors.InvalidCount, errors.InvalidName)):
                    values[spot] = wrong
                    self.assert_given(kind, wrong, function, *values)
                    self.assert_given(kind, wrong, function, **dict(names, **{name: wrong}))

    def test_what_is_let_is_taken(self):
        for function, parameters in TABLE:
            for spot, (_, _, (_, _, others)) in enumerate(parameters):
                values = [value for _, value, _ in parameters]
                for value in others:
                    values[spot] = value
                    error = raised(function, *values)
                    # Only what is told of two arguments together is left: unlike fields, one point twice.
                    if error is not None:
                        self.assertIn(function.__name__, ("plus", "less", "times", "line_through"))
                        self.assertIs(error.given, values[1])

    def test_the_first_of_several_wrong_arguments(self):
        for function, parameters in TABLE:
            for which in itertools.product((False, True), repeat=len(parameters)):
                values = [["wrong", k] if which[k] else part[1] for k, part in enumerate(parameters)]
                if True in which:
                    first = which.index(True)
                    self.assert_given(parameters[first][2][0], values[first], function, *values)
                    names = {part[0]: values[k] for k, part in enumerate(parameters)}
                    self.assert_given(parameters[first][2][0], values[first], function, **dict(reversed(names.items())))

    def test_unlike_fields_are_told_last_for_the_other_number(self):
        for function in (roots.plus, roots.less, roots.times):
            for number, other in (
                (ROOT_TWO, ROOT_THREE), (ROOT_THREE, ROOT_TWO), ((1, -2, -1, True), (1, -1, -1, True)),
                (ROOT_TWO, (1, 0, -6, False)), ((1, 0, -BIG - 1, True), (1, 0, -BIG - 2, True)),
            ):
                self.assert_given(errors.InvalidNumber, other, function, number, other)
                self.assert_given(errors.InvalidNumber, other, function, other=other, number=number)
            self.assert_given(errors.InvalidNumber, (1, 0, -4, True), function, (1, 0, -4, True), ROOT_THREE)
            wrong = (2, 0, -6, True)
            self.assert_given(errors.InvalidNumber, wrong, function, ROOT_TWO, wrong)
            for other in (NIL, ONE, ROOT_TWO, (2, 0, -1, False), (1, 0, -8, True), (1, -2, -1, True)):
                self.assertIsNone(raised(function, ROOT_TWO, other))
                self.assertIsNone(raised(function, other, ROOT_TWO))

    def test_one_point_twice_is_told_for_the_second(self):
        first, second = (NIL, HALF), tuple([NIL, HALF])
        self.assertIsNot(first, second)
        self.assert_given(errors.InvalidPoint, second, curves.line_through, first, second)
        self.assert_given(errors.InvalidPoint, second, curves.line_through, second_point=second, point=first)
        self.assert_given(errors.InvalidPoint, "x", curves.line_through, "x", "x")

    def test_fractions_below_0_have_no_root(self):
        for wrong in ((-1, 1), (-1, 2), (-4, 9), (-BIG, 1)):
            self.assert_given(errors.InvalidFraction, wrong, roots.root_of, wrong)
        self.assertEqual(roots.root_of(NIL), NIL)

    def test_counts(self):
        for many in (1, 2, 10 ** 6 - 1, 10 ** 6):
            self.assertIsNone(raised(roots.near, HALF, many))
        for many in (0, -1, 10 ** 6 + 1, -(10 ** 6), True, False, None, "1", (1,), (1, 1), [1]):
            self.assert_given(errors.InvalidCount, many, roots.near, HALF, many)

    def test_numbers_of_nearly_one_place(self):
        for place in PLACES:
            self.assertIs(curves.is_place(place), True)
        for place in NO_PLACES + tuple(all_spoilt(PLACES)):
            self.assertIs(curves.is_place(place), False)

    def test_is_number(self):
        for number in NUMBERS + ((0, 1), (-1, 1), (BIG, 1), (1, BIG), (2, 2, -1, False), (1, 1, -1, True), (1, -1, -1, False)):
            self.assertIs(roots.is_number(number), True, number)
            self.assertIs(roots.is_number(value=number), True)
        for wrong in NO_NUMBERS + tuple(all_spoilt(NUMBERS)) + POINTS + CURVES:
            self.assertIs(roots.is_number(wrong), False, wrong)

    def test_is_curve(self):
        for curve in CURVES + (("line", TWO, NIL, NIL), ("line", NIL, MINUS, NIL), ("line", HALF, HALF, HALF)):
            self.assertIs(curves.is_curve(curve), True)
            self.assertIs(curves.is_curve(value=curve), True)
        for wrong in NO_CURVES + tuple(all_spoilt(CURVES)) + NUMBERS + POINTS:
            self.assertIs(curves.is_curve(wrong), False, wrong)


    def test_is_lead(self):
        for told in LEADS:
            self.assertIs(leads.is_lead(told), True)
            self.assertIs(leads.is_lead(value=told), True)
        for wrong in NO_LEADS + tuple(all_spoilt(LEADS)) + CURVES + FIGURES + PLACES:
            self.assertIs(leads.is_lead(wrong), False, wrong)

    def test_is_figure(self):
        for figure in FIGURES:
            self.assertIs(figures.is_figure(figure), True)
            self.assertIs(figures.is_figure(value=figure), True)
        for wrong in NO_FIGURES + tuple(all_spoilt(FIGURES)) + PLACES:
            self.assertIs(figures.is_figure(wrong), False, wrong)

    def test_is_view(self):
        for view in VIEWS + (FLAT_VIEW,):
            self.assertIs(pictures.is_view(view), True)
            self.assertIs(pictures.is_view(value=view), True)
        for wrong in NO_VIEWS + tuple(all_spoilt(VIEWS)) + FIGURES:
            self.assertIs(pictures.is_view(wrong), False, wrong)

    def test_is_free_name(self):
        for name in NAMES:
            self.assertIs(words.is_free_name(name), True)
            self.assertIs(words.is_free_name(value=name), True)
        for wrong in NO_NAMES + NUMBERS + FIGURES:
            self.assertIs(words.is_free_name(wrong), False, wrong)

    def test_is_sketch(self):
        for sketch in SKETCHES:
            self.assertIs(sketches.is_sketch(sketch), True)
            self.assertIs(sketches.is_sketch(value=sketch), True)
        for wrong in NO_SKETCHES + tuple(all_spoilt(FIGURES)) + PLACES + SCENES:
            self.assertIs(sketches.is_sketch(wrong), False, wrong)

    def test_is_scene(self):
        for scene in SCENES:
            self.assertIs(sketches.is_scene(scene), True)
            self.assertIs(sketches.is_scene(value=scene), True)
            self.assertIsNone(raised(sketches.scene_figure, scene))
            self.assertIsNone(raised(printer.scene_text, scene))
        for wrong in NO_SCENES + tuple(spoilt(MOON)) + PLACES:
            self.assertIs(sketches.is_scene(wrong), False, wrong)

    def test_books(self):
        for book in ((), BOOK, MOON[0], SCENES[-1][0]):
            self.assertIsNone(raised(printer.book_text, book))
            self.assertIsNone(raised(models.model_of, book=book))
        for wrong in NO_BOOKS:
            for call in (printer.book_text, models.model_of):
                self.assert_given(errors.InvalidScene, wrong, call, wrong)
                self.assert_given(errors.InvalidScene, wrong, call, book=wrong)

    def test_texts(self):
        for call in (words.words_of, reader.read_sketch, reader.read_scene, reader.read_book, reader.read_figure):
            for wrong in [value for value in STRAY if not isinstance(value, str)] + [b"all", ["all"], ("all",), 0, 1, DISC]:
                for error in (raised(call, wrong), raised(call, text=wrong)):
                    self.assertIs(kind_of(error), errors.BadText)
                    self.assertIs(error.spot, None)

    def test_letters_up_to_48(self):
        for count in (1, 2, 47, 48):
            self.assertEqual(len(letters.letters(DISC, (NIL, NIL), (ONE, ONE), count)), count)
            self.assertEqual(len(letters.letters(count=count, high=(ONE, ONE), low=(NIL, NIL), figure=DISC)[-1]), count)

    def test_figures_ahead_of_rows(self):
        for wrong in NO_FIGURES + tuple(all_spoilt(FIGURES[4:8])):
            self.assert_given(errors.InvalidFigure, wrong, figures.truth_at, wrong, (True,))
            self.assert_given(errors.InvalidFigure, wrong, figures.truth_at, row=None, figure=wrong)


class CurvesErrors(Told, unittest.TestCase):
    def each(self):
        """Each function of curves, as a function of its first argument alone."""
        for function in ROW_ALONE:
            yield lambda row: function(row)
            yield lambda row: function(curves=row)
        for function, name, value, _, _ in ROW_TABLE:
            yield lambda row: function(row, value)
            yield lambda row: function(**{name: value, "curves": row})
        yield lambda row: rows.point_with(row, (True,) * len(row) if isinstance(row, tuple) else None)
        yield lambda row: rows.are_samples(row, ())
        yield lambda row: rows.are_samples(points=None, curves=row)

    def test_the_row_is_taken(self):
        self.assertEqual((len(columns.events(ROW)), len(chart.corners(ROW)), len(chart.faces(ROW))), (EVENTS, CORNERS, FACES))
        for call in self.each():
            self.assertIsNone(raised(call, ROW))

    def test_what_is_no_tuple_or_too_long(self):
        ten = tuple(("line", NIL, ONE, (k, 1)) for k in range(10))
        wrong_within = (FLOOR, None) + ten[1:]
        for call in self.each():
            for row in (list(ROW), None, True, False, 0, "", "text", {}, set(), [], [[]], b"", object(), ten, wrong_within, list(ten)):
                self.assert_index(None, call, row)
        for function, _, value, _, _ in ROW_TABLE:
            nine = ten[:9]
            if function not in (columns.wall, chart.touching):
                self.assertIsNone(raised(function, nine, value))
        self.assertEqual(columns.events(ten[:9]), ())

    def test_each_part_that_is_wrong_by_itself(self):
        for call in self.each():
            for spot in range(len(ROW)):
                for wrong in spoilt(ROW[spot])[:12] + list(STRAY) + [("line", NIL, NIL, ONE), ("circle", NIL, NIL, NIL)]:
                    self.assert_index(spot, call, ROW[:spot] + (wrong,) + ROW[spot + 1:])
        for spot in range(len(ROW)):
            for wrong in spoilt(ROW[spot]):
                self.assert_index(spot, columns.events, ROW[:spot] + (wrong,) + ROW[spot + 1:])

    def test_what_is_no_form(self):
        for wrong in (
            ("line", TWO, NIL, NIL), ("line", MINUS, NIL, NIL), ("line", NIL, MINUS, ONE), ("line", HALF, NIL, ONE),
            ("line", (-1, 1), ONE, ONE), ("line", TWO, (4, 1), (6, 1)), ("line", ONE, ONE, HALF),
            ("line", NIL, TWO, TWO), ("line", (3, 1), (6, 1), NIL), ("line", NIL, ONE, (1, 3)), ("line", MINUS, MINUS, MINUS),
        ):
            self.assertTrue(curves.is_curve(wrong))
            for call in self.each():
                self.assert_index(2, call, (RING, POST, wrong))
                self.assert_index(0, call, (wrong, RING))
        for right in (("line", TWO, NIL, ONE), ("line", NIL, TWO, (-3, 1)), ("line", TWO, (-4, 1), (7, 1)), ("line", ONE, (-9, 1), NIL)):
            for call in self.each():
                self.assertIsNone(raised(call, (right, RING, ("circle", ONE, NIL, ONE))))

    def test_what_is_told_twice(self):
        for call in self.each():
            self.assert_index(1, call, (RING, RING))
            self.assert_index(3, call, (RING, FLOOR, POST, ("line", NIL, ONE, NIL), RING))
            self.assert_index(4, call, (RING, FLOOR, POST, ("line", ONE, ONE, NIL), RING))
            self.assert_index(2, call, (RING, FLOOR, RING, None))
            self.assert_index(1, call, (RING, None, RING))
            self.assert_index(0, call, ("RING", None, RING))
            self.assert_index(2, call, (FLOOR, RING, (*FLOOR[:3], (2, 2)), FLOOR))

    def test_circles_with_one_middle_or_square_are_unlike(self):
        for call in self.each():
            self.assertIsNone(raised(call, (RING, ("circle", NIL, NIL, TWO), ("circle", ONE, NIL, ONE), ("circle", NIL, ONE, ONE))))

    def test_second_arguments(self):
        for function, name, _, kind, stray in ROW_TABLE:
            for wrong in tuple(stray) + STRAY:
                self.assert_given(kind, wrong, function, ROW, wrong)
                self.assert_given(kind, wrong, function, **{name: wrong, "curves": ROW})

    def test_curves_are_checked_first(self):
        for function, _, value, _, stray in ROW_TABLE:
            for wrong in (stray[0], None, value):
                self.assert_index(None, function, list(ROW), wrong)
                self.assert_index(1, function, (RING, RING), wrong)
                self.assert_index(0, function, (None,), wrong)

    def test_indexes_just_inside_and_just_outside(self):
        for row, many in ((ROW, EVENTS), ((), 0), ((FLOOR,), 0), ((POST,), 1), ((RING,), 2)):
            self.assertEqual(len(columns.events(row)), many)
            for function in (columns.stack, columns.sample):
                for column in (0, many):
                    self.assertIsNone(raised(function, row, column))
                for column in (-1, many + 1, -many - 1, True, False):
                    self.assert_given(errors.InvalidIndex, column, function, row, column)
            for event in (0, many - 1):
                if many:
                    self.assertIsNone(raised(columns.wall, row, event))
            for event in (-1, many, many + 1, True, False):
                self.assert_given(errors.InvalidIndex, event, columns.wall, row, event)

    def test_corners_just_inside_and_just_outside(self):
        for row, many in ((ROW, CORNERS), ((), 0), ((FLOOR,), 0), ((RING,), 0), ((RING, FLOOR), 2), ((FLOOR, POST), 1)):
            self.assertEqual(len(chart.corners(row)), many)
            for corner in (0, many - 1):
                if many:
                    self.assertIsNone(raised(chart.touching, row, corner))
            for corner in (-1, many, many + 1, -many - 1, True, False):
                self.assert_given(errors.InvalidIndex, corner, chart.touching, row, corner)

    def test_faces_just_inside_and_just_outside(self):
        for row, many in ((ROW, FACES), ((), 1), ((FLOOR,), 2), ((RING, FLOOR), 4), ((FLOOR, POST), 4)):
            self.assertEqual(len(chart.faces(row)), many)
            for function in (rims.face_rims, rims.face_is_bounded, rims.face_holes):
                for face in (0, many - 1):
                    self.assertIsNone(raised(function, row, face))
                for face in (-1, many, many + 1, -many, True, False):
                    self.assert_given(errors.InvalidIndex, face, function, row, face)

    def test_kinds_of_results(self):
        self.assertIs(kind_of(columns.events(ROW)), tuple)
        for column in range(EVENTS + 1):
            self.assertTrue(all(kind_of(part) is int for arc in columns.stack(ROW, column) for part in arc))
            self.assertIs(kind_of(columns.stack(ROW, column)), tuple)
        for event in range(EVENTS):
            self.assertTrue(all(kind_of(lot) is tuple for lot in columns.wall(ROW, event)))


if __name__ == "__main__":
    unittest.main()
