"""The examples of the interface, with the answers and errors as they stand there."""

import unittest

from planehall import errors

ROOTS = r"""
>>> from planehall.roots import between, is_number, less, lie_in_one, near, order, plus, root_of, times
>>> nil, half, one, two, three, four, minus = (0, 1), (1, 2), (1, 1), (2, 1), (3, 1), (4, 1), (-1, 1)
>>> [is_number((1, 0, -2, True)), is_number((1, 0, -4, True)), is_number((2, 4, -6, True)), root_of(two), root_of(four), root_of(half)]
[True, False, False, (1, 0, -2, True), (2, 1), (2, 0, -1, True)]
>>> [order(root_of(two), (3, 2)), order(plus(one, root_of(two)), root_of((6, 1))), order((1, 0, -2, False), (1, 0, -2, True)), lie_in_one(root_of(two), root_of(half)), lie_in_one(root_of(two), root_of(three))]
[-1, -1, -1, True, False]
>>> [plus(one, root_of(two)), times(root_of(two), root_of(half)), less(root_of(half), root_of(two)), near(root_of(two), 10), near(half, 4), order(between(root_of(two), (3, 2)), (3, 2))]
[(1, -2, -1, True), (1, 1), (2, 0, -1, False), (14, False), (2, True), -1]
>>> plus(root_of(two), root_of(three))
raises InvalidNumber(given=(1, 0, -3, True))
"""

CURVES = r"""
>>> from planehall.curves import circle_through, crossings, do_touch, form_of, is_curve, is_place, line_through, sign_at
>>> ring, floor, slope = ("circle", nil, nil, one), ("line", nil, one, nil), ("line", minus, one, nil)
>>> [is_curve(ring), is_curve(("circle", nil, nil, nil)), is_place((root_of(two), root_of(three))), form_of(slope), form_of(("line", nil, (-1, 2), (1, 3)))]
[True, False, False, ('line', (1, 1), (-1, 1), (0, 1)), ('line', (0, 1), (3, 1), (-2, 1))]
>>> [crossings(ring, floor), crossings(ring, slope), crossings(ring, ("line", one, nil, one)), do_touch(ring, ("line", one, nil, one)), sign_at(ring, (half, half)), sign_at(floor, (root_of(two), root_of(half)))]
[(((-1, 1), (0, 1)), ((1, 1), (0, 1))), (((2, 0, -1, False), (2, 0, -1, False)), ((2, 0, -1, True), (2, 0, -1, True))), (((1, 1), (0, 1)),), True, -1, 1]
>>> [crossings(ring, ("circle", one, nil, one)), line_through((nil, nil), (one, one)), circle_through((one, nil), (nil, one), (minus, nil)), circle_through((nil, nil), (one, one), (two, two))]
[(((1, 2), (4, 0, -3, False)), ((1, 2), (4, 0, -3, True))), ('line', (1, 1), (-1, 1), (0, 1)), ('circle', (0, 1), (0, 1), (1, 1)), None]
"""

COLUMNS = r"""
>>> from planehall.columns import events, gap_of, sample, stack, wall
>>> cross = (ring, floor)
>>> [events(cross), stack(cross, 0), stack(cross, 1), wall(cross, 0), sample((), 0) is None, gap_of(cross, (nil, half)), gap_of(cross, (one, half))]
[((-1, 1), (1, 1)), ((1, 0),), ((0, -1), (1, 0), (0, 1)), ((0, 1),), False, (1, 2), None]
>>> [events((ring, ("line", one, nil, nil))), wall((ring, ("line", one, nil, nil)), 1), stack((), 0)]
[((-1, 1), (0, 1), (1, 1)), ((0,), (0,)), ()]
"""

CHART = r"""
>>> from planehall.chart import corners, edges, faces, locate, touching
>>> [corners(cross), edges(cross), len(faces(cross)), locate(cross, faces(cross)[2]), locate(cross, (one, nil)), locate(cross, (root_of(two), nil)), touching(cross, 0)]
[(((-1, 1), (0, 1)), ((1, 1), (0, 1))), ((1, None, 0, 0, 1), (0, 0, 1, 2, 0), (1, 0, 1, 2, 3), (0, 0, 1, 3, 1), (1, 1, None, 0, 1)), 4, ('face', 2), ('corner', 1), ('edge', 4), (0, 1, 2, 3)]
>>> [edges((ring,)), len(faces((ring,))), faces(()), locate((ring,), (root_of(half), root_of(half)))] == [((0, None, None, 1, 0),), 2, faces(()), ("edge", 0)]
True
"""

RIMFORM = r"""
>>> from planehall.rimform import rim_edges, rim_form, told_at
>>> disc, low = ("disc", nil, nil, one), ("half", nil, one, nil)
>>> [told_at(disc, (nil, nil)), told_at(disc, (root_of(half), root_of(half))), told_at(("join", low, ("outside", low)), (nil, nil)), rim_edges(("common", disc, low)), rim_form(("join", low, ("outside", low)))]
['in', 'rim', 'in', (1, 2), 'all']
>>> rim_form(("common", disc, low))
((('circle', (0, 1), (0, 1), (1, 1)), True, ((-1, 1), (0, 1)), ((1, 1), (0, 1))), (('line', (0, 1), (1, 1), (0, 1)), True, ((1, 1), (0, 1)), ((-1, 1), (0, 1))))
>>> [rim_form(disc), rim_form(("outside", disc)) == ((ring, False, None, None),), rim_form(("common", disc, ("join", low, disc))) == rim_form(disc)]
[((('circle', (0, 1), (0, 1), (1, 1)), True, None, None),), True, True]
"""

LEADS = r"""
>>> from planehall.leads import back, behind, is_lead, is_rigid, led_curve, led_place, mirror, move, turn
>>> start, east = (nil, nil), (one, nil)
>>> [turn((two, one)), mirror(("line", one, nil, half)), led_place(mirror(("line", one, nil, half)), start), led_curve(move(east), ring), led_curve((two, nil, False, start), ("line", one, nil, one))]
[((3, 5), (4, 5), False, ((0, 1), (0, 1))), ((-1, 1), (0, 1), True, ((1, 1), (0, 1))), ((1, 1), (0, 1)), ('circle', (1, 1), (0, 1), (1, 1)), ('line', (2, 1), (0, 1), (4, 1))]
>>> [led_place(behind(turn((one, one)), move(east)), east), back(move(east)) == move((minus, nil)), is_rigid(turn((two, one))), is_rigid((two, nil, False, start)), is_lead((nil, nil, False, start))]
[((1, 1), (1, 1)), True, True, False, False]
"""

FIGURES = r"""
>>> from planehall.figures import bounds_of, curves_of, depth_of, is_figure, plain_of, row_of, size_of, truth_at
>>> bowl, square = ("common", disc, low), ("box", start, (one, one))
>>> [is_figure(square), is_figure(("box", east, east)), depth_of(bowl), size_of(square), curves_of(bowl) == cross, plain_of(("less", disc, low)), plain_of(square)]
[True, False, 2, 4, True, ('each', ((0, True), ('not', (1, True)))), ('each', ((2, False), (3, True), (0, False), (1, True)))]
>>> [truth_at(bowl, (True, True)), truth_at(bowl, (None, False)), truth_at(bowl, (None, True)), row_of(bowl, (half, nil)), bounds_of(("repeat", 2, east, disc))]
[True, False, None, (True, None), (('circle', (0, 1), (0, 1), (1, 1)), ('circle', (1, 1), (0, 1), (1, 1)))]
>>> curves_of(("repeat", 6, (two, three), square))
raises TooMany(24)
"""

ROWS = r"""
>>> from planehall.rows import are_samples, lone_curves, point_with, rows_near, rows_of, samples_of
>>> from planehall.meaning import is_free, telling
>>> post = ("line", one, nil, one)
>>> [rows_near(cross, east), rows_near((ring, post), east), lone_curves((ring, post)), lone_curves((ring, ("line", one, nil, two)))]
[((False, False), (False, True), (True, False), (True, True)), ((False, False), (False, True), (True, True)), (), (0, 1)]
>>> [rows_of((ring, post)), rows_of(()), point_with((ring, post), (True, False)), are_samples((), (start,)), are_samples(cross, ((nil, half),)), are_samples(cross, samples_of(cross))]
[((False, False), (False, True), (True, True)), ((),), None, True, False, True]
>>> sliver = ("common", disc, ("half", minus, nil, minus))
>>> [telling(disc, (root_of(half), root_of(half))), telling(bowl, east), telling(sliver, east), telling(("join", low, ("outside", low)), start), is_free(bowl, east)]
['rim', 'rim', 'out', 'in', False]
"""

COMPARE = r"""
>>> from planehall.compare import are_apart, inner_point, is_bounded, is_empty, is_same, is_within, outer_point, parting_point, ray_of, shared_point
>>> [is_empty(sliver), is_same(bowl, ("less", disc, ("outside", low))), parting_point(disc, bowl)[1][0] > 0, is_within(bowl, disc), are_apart(disc, ("led", move((two, nil)), disc)), shared_point(disc, low)[1][0] < 0, inner_point(sliver)]
[True, True, True, True, True, True, None]
>>> [is_bounded(bowl), is_bounded(low), ray_of(bowl), ray_of(low)[1][1][0] <= 0, outer_point(low, disc)[1][0] < 0]
[True, False, None, True, True]
"""

LANGUAGE = r"""
>>> from planehall.words import fraction_text, is_free_name, words_of
>>> from planehall.sketches import is_scene, is_sketch, names_in, renamed, scene_figure
>>> from planehall.reader import read_book, read_figure, read_scene, read_sketch
>>> from planehall.printer import book_text, scene_text, sketch_text
>>> [words_of("a - -1/2 # x"), is_free_name("a_1"), is_free_name("box"), fraction_text((-1, 2))]
[((0, 'a'), (2, '-'), (4, '-'), (5, '1'), (6, '/'), (7, '2')), True, False, '-1/2']
>>> moon = read_scene("let a = disc(0,0; 1); a - move(1, 2/4) a")
>>> [scene_figure(moon) == ("less", disc, ("led", move((one, half)), disc)), names_in(moon[1]), scene_text(moon)]
[True, ('a',), 'let a = disc(0, 0; 1);\na - move(1, 1/2) a']
>>> [read_sketch("a | b & not c") == ("join", ("name", "a"), ("common", ("name", "b"), ("outside", ("name", "c")))), sketch_text(("common", ("join", ("name", "a"), ("name", "b")), ("less", ("name", "c"), ("name", "d"))))]
[True, '(a | b) & (c - d)']
>>> [read_figure("half(0, 1, 0)") == low, sketch_text(read_sketch("turn(2,1)all")), sketch_text(read_sketch("mirror(1,0,1/2)a")), is_sketch(("name", "box")), renamed(("name", "a"), "a", "b")]
[True, 'lead(3/5, 4/5; 0, 0) all', 'flip(-1, 0; 1, 0) a', False, ('name', 'b')]
>>> read_sketch("a | | b")
raises BadText(4)
>>> read_scene("let a = b; half(1/0, 0, 0")
raises BadText(25)
>>> read_scene("let a = b; half(1/0, 0, 0)")
raises BadText(8)
"""

MODELS = r"""
>>> from planehall.models import Model, model_of
>>> model = model_of(moon[0])
>>> [model.put("b", moon[1]), model.rename("a", "c"), [name for name, sketch in model.book()], model.sketch("b")[1], model.uses("b"), model.used_by("c"), model.steps()]
[None, None, ['c', 'b'], ('name', 'c'), ('c',), ('b',), (2, 0)]
>>> model.put("c", ("outside", ("name", "b")))
raises ComesRound('c')
"""

LETTERS = r"""
>>> from planehall.letters import letters
>>> from planehall.console import run
>>> [letters(disc, (minus, minus), (one, one), 4), letters(low, (minus, minus), (one, one), 3)]
[('.##.', '####', '####', '.##.'), ('...', '+++', '###')]
>>> run(("a = disc(0,0; 1)", "b = a - move(1, 0) a", "at b 1/2 0", "within b a", "letters a -1 -1 1 1 2", "strike a", "c = a |", "draw a"))
('done', 'done', 'out', 'yes', '##\n##', '? InUse b', '? BadText 7', '?')
"""

CERTIFICATES = r"""
>>> from planehall.certificates import certify_bounded, certify_empty, certify_rows, certify_same, certify_telling
>>> from planehall.checker import accepts
>>> points = ((nil, half), (nil, (-1, 2)), (nil, two), (nil, (-2, 1)))
>>> again = ("same", bowl, ("less", disc, ("outside", low)))
>>> [accepts(again, points), accepts(again, points[:3]), accepts(("in", disc, start), ()), accepts(("not bounded", low), ((nil, minus), east)), accepts(7, ())]
[True, False, True, True, False]
>>> [accepts(("rim", disc, east), ((ring, True, (-2, 1)), (ring, True, nil))), accepts(("rim", disc, east), ((ring, True, nil), (ring, True, (-2, 1)))), certify_rows((ring,))[0][2], certify_telling(sliver, east), certify_empty(sliver)[0][0], certify_bounded(low)[0][0]]
[True, False, ((False,), (True,)), (('out', ('common', ('disc', (0, 1), (0, 1), (1, 1)), ('half', (-1, 1), (0, 1), (-1, 1))), ((1, 1), (0, 1))), ()), 'empty', 'not bounded']
"""

RIMS = r"""
>>> from planehall.rims import all_bounded, bodies, face_holes, face_is_bounded, face_rims, next_piece, rims, round_number
>>> square, gem = ("box", (nil, nil), (one, one)), ("common", disc, low)
>>> [rims(square), rims(gem), rims(low), rims(disc), rims(("all",)), next_piece(square, 0), next_piece(low, 0)]
[((True, (0, 3, 1, 2)),), ((True, (0, 1)),), ((False, (0,)),), ((True, (0,)),), (), 3, None]
>>> pane = ("less", ("box", (minus, minus), (three, three)), ("join", square, ("disc", two, two, half)))
>>> [[body[1:] for body in bodies(pane)], all_bounded(pane), [body[1:] for body in bodies(("outside", disc))], [body[1:] for body in bodies(("all",))], [body[1:] for body in bodies(("join", square, ("led", (one, nil, False, (one, one)), square)))]]
[[((0, 1, 2), True, 2)], True, [((0,), False, 1)], [((), False, 0)], [((0,), True, 0), ((1,), True, 0)]]
>>> [face_rims(cross, 0), face_rims(cross, 2), face_is_bounded(cross, 2), face_is_bounded(cross, 0), face_holes((ring,), 0), round_number(()), round_number((ring,)), round_number(cross)]
[(0, 1), (1, 0), True, False, 1, 1, 1, 1]
"""

MEASURES = r"""
>>> from planehall.measures import angle_between, area_between, centre, is_roots, is_straight, length_between, moments, roots_plus, straight_part
>>> lens, wedge = ("common", disc, ("disc", one, nil, one)), ("polygon", ((nil, nil), (one, nil), (nil, one)))
>>> [straight_part(square), straight_part(disc), straight_part(lens), roots_plus(((-3, 4),), ((3, 1),)), roots_plus(((-3, 4),), ((3, 4),)), is_roots(((-1, 1), (4, 1)))]
[((1, 1),), (), ((-3, 4),), ((3, 4),), (), False]
>>> low_end, high_end = area_between(disc, 100)
>>> [order(low_end, (22, 7)), order((3, 1), low_end), order((16, 5), high_end), area_between(square, 2)[0][0] > 0]
[-1, -1, 1, True]
>>> [moments(wedge), centre(square), is_straight(gem), order(length_between(square, 1000)[0], (4, 1)) < 1, order(angle_between((one, nil), (nil, one), 10)[1], (3, 2))]
[((1, 2), ((1, 6), (1, 6)), (((1, 12), (1, 24)), ((1, 24), (1, 12)))), ((1, 2), (1, 2)), False, True, 1]
>>> centre(disc)
raises NotStraight()
"""

LINES = r"""
>>> from planehall.lines import first_met, is_clear, place_at, walk
>>> [walk(disc, (nil, half), (one, nil)), walk(square, (minus, nil), (one, nil)), walk(disc, (one, nil), (nil, one))]
[(((4, 0, -3, False), (4, 0, -3, True)), ('out', 'rim', 'in', 'rim', 'out')), (((1, 1), (2, 1)), ('out', 'rim', 'rim', 'rim', 'out')), (((0, 1),), ('out', 'rim', 'out'))]
>>> [first_met(disc, (nil, two), (nil, minus)), first_met(disc, (nil, two), (one, nil)), first_met(disc, (nil, nil), (one, nil)), place_at((nil, half), (one, nil), (4, 0, -3, True)), is_clear(disc, (one, one), (minus, one)), is_clear(disc, (two, two), (one, three))]
[(1, 1), None, (0, 1), ((4, 0, -3, True), (1, 2)), False, True]
"""

NEAREST = r"""
>>> from planehall.nearest import box_around, farthest_place, gap, nearest_place, reach
>>> [gap(disc, (two, nil)), gap(disc, (one, one)), nearest_place(disc, (one, one)), gap(square, (three, two)), nearest_place(square, (three, two)), gap(("outside", disc), (nil, nil)), gap(("none",), (nil, nil))]
[(1, 1), (1, -6, 1, False), ((2, 0, -1, True), (2, 0, -1, True)), (5, 1), ((1, 1), (1, 1)), (1, 1), None]
>>> [reach(disc, (one, one)), farthest_place(square, (one, two)), box_around(lens)]
[(1, 0, -2, True), ((1, 1), (1, 1)), ((0, 1), (1, 1), (4, 0, -3, False), (4, 0, -3, True))]
"""

PICTURES = r"""
>>> from planehall.pictures import covered, dot_square, dots, is_picture, is_view, picture, picture_letters
>>> near_view, wide_view = ((minus, one), half, 4, 4), ((minus, one), one, 2, 2)
>>> [dots(disc, near_view), dots(disc, wide_view), covered(disc, near_view), covered(disc, wide_view), dot_square(near_view, 0, 3)]
[((1, 1, 1, 1), (1, 2, 2, 1), (1, 2, 2, 1), (1, 1, 1, 1)), ((1, 1), (1, 1)), ((1, 1), (4, 1)), ((0, 1), (4, 1)), (((1, 2), (1, 2)), ((1, 1), (1, 1)))]
>>> [dots(square, ((minus, one), one, 2, 1)), picture(disc, wide_view, 2), picture_letters(picture(disc, wide_view, 1)), picture(square, ((minus, one), one, 2, 1), 1), picture_letters(((255, 0),))]
[((0, 2),), ((96, 96), (96, 96)), ('==', '=='), ((255, 0),), (' @',)]
"""

IMAGES = r"""
>>> from planehall.images import check_number, picture_bytes, picture_text, read_bytes, read_picture, sum_number
>>> [picture_text(((255, 7),)), read_picture(picture_text(((1, 2), (3, 4)))), read_bytes(picture_bytes(((255, 7),))), len(picture_bytes(((0,),))), picture_bytes(((0,),))[:8]]
['P2\n2 1\n255\n255 7\n', ((1, 2), (3, 4)), ((255, 7),), 70, (137, 80, 78, 71, 13, 10, 26, 10)]
>>> [check_number(()), check_number((73, 69, 78, 68)), sum_number(()), sum_number((97, 98, 99))]
[0, 2923585666, 1, 38600999]
>>> read_picture("P2\n2 1\n255\n256")
raises BadText(13)
>>> read_bytes((137, 80, 1))
raises InvalidBytes(2)
"""

STAGES_5_AND_6 = (LETTERS, CERTIFICATES, RIMS, MEASURES, LINES, NEAREST, PICTURES, IMAGES)


def cases(text):
    """The pairs of a line of code and what is told behind it, None if nothing is."""
    rows = text.strip().split("\n")
    found = []
    for k, row in enumerate(rows):
        if row.startswith(">>> "):
            answer = rows[k + 1] if k + 1 < len(rows) else ">>>"
            found.append((row[4:], None if answer.startswith(">>>") else answer))
    return found


class Examples(unittest.TestCase):
    def answer(self, code, wanted, names):
        if wanted is None:
            exec(code, names)
        elif wanted.startswith("raises "):
            error = eval(wanted[len("raises "):], dict(vars(errors), **names))
            with self.assertRaises(error.__class__) as caught:
                eval(code, names)
            self.assertIs(caught.exception.__class__, error.__class__)
            self.assertEqual(repr(vars(caught.exception)), repr(vars(error)))
        else:
            self.assertEqual(repr(eval(code, names)), wanted, code)

    def test_examples(self):
        # The names of one heading are used under those behind it.
        names, many = {}, 0
        for text in (ROOTS, CURVES, COLUMNS, CHART, RIMFORM, LEADS, FIGURES, ROWS, COMPARE, LANGUAGE, MODELS) + STAGES_5_AND_6:
            for code, wanted in cases(text):
                self.answer(code, wanted, names)
                many += 1
        self.assertEqual(many, 96)


if __name__ == "__main__":
    unittest.main()
