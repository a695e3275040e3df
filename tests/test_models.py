"""Models: sketches under names, and their steps ([33])."""

import copy
import random
import unittest

from planehall import errors
from planehall.figures import is_figure
from planehall.models import Model, model_of
from planehall.printer import scene_text
from planehall.reader import read_scene
from planehall.sketches import is_scene, scene_figure
from tests.grammar import sketch_of, some_tree
from tests.helpers import NIL, ONE, STRAY, Told, kind_of, raised
from tests.oracle import ALL, DISC, LOW, NONE, SQUARE, disc
from tests.test_sketches import deep, filled, nine_discs, nots

ORIGIN, EAST = (NIL, NIL), (ONE, NIL)
A, B, C, D = [("name", name) for name in "abcd"]
GREAT = ("repeat", 5, ORIGIN, ("repeat", 5, ORIGIN, ("join", SQUARE, SQUARE)))


def names_of(sketch):
    if sketch[0] == "name":
        return [sketch[1]]
    parts = sketch[1:] if sketch[0] in ("join", "less", "common") else sketch[-1:] if sketch[0] in ("outside", "led", "repeat") else ()
    return list(dict.fromkeys(name for part in parts for name in names_of(part)))


def state_of(model):
    """All that a model tells."""
    names = model.names()
    told = [(name, model.sketch(name), model.figure(name), model.uses(name), model.used_by(name), model.scene(name)) for name in names]
    return (names, told, model.book())


def with_names(**sketches):
    model = Model()
    for name, sketch in sketches.items():
        model.put(name, sketch)
    return model


class Plain:
    """A model as plain as can be: all states of a dict of sketches, and which is now."""

    def __init__(self):
        self.states, self.now = [{}], 0

    def sketches(self):
        return self.states[self.now]

    def step(self, sketches):
        self.states = self.states[:self.now + 1] + [sketches]
        self.now += 1

    def uses(self, sketches, name):
        found, left = set(), [name]
        while left:
            for other in names_of(sketches.get(left.pop(), ALL)):
                if other not in found:
                    found.add(other)
                    left.append(other)
        return found

    def figure(self, sketches, name):
        return filled(sketches[name], {other: self.figure(sketches, other) for other in names_of(sketches[name])})

    def put(self, name, sketch):
        sketches = dict(self.sketches())
        for other in names_of(sketch):
            if other != name and other not in sketches:
                return errors.UnknownName(other)
        sketches[name] = sketch
        if name in self.uses(sketches, name):
            return errors.ComesRound(name)
        figures = {other: self.figure(sketches, other) for other in sorted(sketches)}
        for other, figure in figures.items():
            if deep(figure) > 12:
                return errors.TooDeep(other)
        for figure in figures.values():
            if not is_figure(figure):
                return raised(scene_figure, ((), figure))
        return self.step(sketches)

    def rename(self, name, other_name):
        sketches = self.sketches()
        if name not in sketches:
            return errors.UnknownName(name)
        if other_name in sketches:
            return errors.NameTaken(other_name)
        table = {name: ("name", other_name)}
        return self.step({other_name if other == name else other: filled(sketch, table) for other, sketch in sketches.items()})

    def strike(self, name):
        sketches = self.sketches()
        if name not in sketches:
            return errors.UnknownName(name)
        users = [other for other in sorted(sketches) if name in names_of(sketches[other])]
        return errors.InUse(users[0]) if users else self.step({other: sketches[other] for other in sketches if other != name})

    def undo(self):
        if self.now == 0:
            return errors.NothingToUndo()
        self.now -= 1
        return None

    def redo(self):
        if self.now + 1 == len(self.states):
            return errors.NothingToRedo()
        self.now += 1
        return None

    def book(self):
        left, rows = dict(self.sketches()), []
        while left:
            name = min(name for name in left if not set(names_of(left[name])) & set(left))
            rows.append((name, left.pop(name)))
        return tuple(rows)

    def state(self):
        sketches, book = self.sketches(), self.book()
        told = []
        for name in sorted(sketches):
            uses = self.uses(sketches, name)
            used_by = tuple(other for other in sorted(sketches) if name in self.uses(sketches, other))
            scene = (tuple(row for row in book if row[0] in uses), sketches[name])
            told.append((name, sketches[name], self.figure(sketches, name), tuple(sorted(uses)), used_by, scene))
        return (tuple(sorted(sketches)), told, book)


class Steps(Told, unittest.TestCase):
    def test_by_hand(self):
        model = Model()
        self.assert_plain([model.names(), model.book(), model.steps()], [(), (), (0, 0)])
        self.assert_plain([model.put("b", DISC), model.put(name="a", sketch=("less", B, LOW)), model.steps()], [None, None, (2, 0)])
        self.assert_plain(model.names(), ("a", "b"))
        self.assert_plain(model.book(), (("b", DISC), ("a", ("less", B, LOW))))
        self.assert_plain([model.sketch("a"), model.figure("a"), model.sketch(name="b"), model.figure(name="b")], [("less", B, LOW), ("less", DISC, LOW), DISC, DISC])
        self.assert_plain([model.uses("a"), model.uses("b"), model.used_by("a"), model.used_by(name="b")], [("b",), (), (), ("a",)])
        self.assert_plain([model.scene("a"), model.scene(name="b")], [((("b", DISC),), ("less", B, LOW)), ((), DISC)])
        self.assert_plain([model.rename("b", "c"), model.sketch("a"), model.names(), model.figure("c")], [None, ("less", C, LOW), ("a", "c"), DISC])
        self.assert_plain([model.put("c", SQUARE), model.figure("a")], [None, ("less", SQUARE, LOW)])
        self.assert_plain([model.strike("a"), model.names(), model.strike(name="c"), model.names(), model.steps()], [None, ("c",), None, (), (6, 0)])
        self.assert_plain([model.undo(), model.undo(), model.names(), model.figure("a"), model.steps()], [None, None, ("a", "c"), ("less", SQUARE, LOW), (4, 2)])
        self.assert_plain([model.undo(), model.figure("a"), model.undo(), model.sketch("a"), model.steps()], [None, ("less", DISC, LOW), None, ("less", B, LOW), (2, 4)])
        self.assert_plain([model.redo(), model.names(), model.rename(other_name="z", name="a"), model.names(), model.steps()], [None, ("a", "c"), None, ("c", "z"), (4, 0)])
        self.assertIs(kind_of(raised(model.redo)), errors.NothingToRedo)

    def test_errors_change_nothing(self):
        model = with_names(a=DISC, b=("less", A, LOW), c=("join", B, A), d=nots(C, 8), e=nine_discs(), f=GREAT)
        model.undo()
        state, steps = copy.deepcopy(state_of(model)), model.steps()
        self.assertEqual(steps, (5, 1))
        deepest = nots(ALL, 11)
        for kind, given, call, *args in (
            (errors.InvalidName, "box", model.put, "box", None), (errors.InvalidSketch, None, model.put, "a", None), (errors.InvalidSketch, ("name", "box"), model.put, "a", ("name", "box")),
            (errors.UnknownName, "x", model.put, "y", ("join", A, ("join", ("name", "x"), ("name", "w")))), (errors.UnknownName, "x", model.put, "a", ("join", A, ("name", "x"))), (errors.ComesRound, "a", model.put, "a", A),
            (errors.ComesRound, "y", model.put, "y", ("outside", ("name", "y"))), (errors.ComesRound, "a", model.put, "a", B), (errors.ComesRound, "a", model.put, "a", ("less", D, ("name", "e"))), (errors.ComesRound, "b", model.put, "b", C),
            (errors.TooDeep, "b", model.put, "a", deepest), (errors.TooDeep, "d", model.put, "a", nots(ALL, 2)), (errors.TooDeep, "y", model.put, "y", ("outside", ("outside", D))), (errors.TooMany, 10, model.put, "y", ("join", ("name", "e"), LOW)),
            (errors.TooMany, 201, model.put, "y", ("join", GREAT, ALL)), (errors.InvalidName, "let", model.rename, "let", "not"), (errors.InvalidName, "not", model.rename, "x", "not"), (errors.UnknownName, "x", model.rename, "x", "a"),
            (errors.NameTaken, "b", model.rename, "a", "b"), (errors.NameTaken, "a", model.rename, "a", "a"), (errors.InvalidName, "A", model.strike, "A"), (errors.UnknownName, "x", model.strike, "x"), (errors.InUse, "b", model.strike, "a"),
            (errors.InUse, "c", model.strike, "b"), (errors.InUse, "d", model.strike, "c"), (errors.UnknownName, "f", model.strike, "f"), (errors.UnknownName, "f", model.put, "a", ("name", "f")),
        ):
            error = raised(call, *args)
            self.assertIs(kind_of(error), kind, args)
            self.assert_plain(error.given, given)
            self.assertEqual((state_of(model), model.steps()), (state, steps))
        model.redo()
        self.assertEqual(model.steps(), (6, 0))
        self.assertEqual(model.names(), ("a", "b", "c", "d", "e", "f"))

    def test_wrong_names_of_what_is_told(self):
        model = with_names(a=DISC, b=A)
        for call in (model.sketch, model.figure, model.uses, model.used_by, model.scene, model.strike):
            for wrong in [value for value in STRAY if value != "line"] + ["box", "A", "x" * 25, ("a",), "a ", ""]:
                self.assert_given(errors.InvalidName, wrong, call, wrong)
                self.assert_given(errors.InvalidName, wrong, call, name=wrong)
            for wrong in ("c", "line", "x" * 24):
                self.assert_given(errors.UnknownName, wrong, call, wrong)
        for wrong in [value for value in STRAY if value != "line"]:
            self.assert_given(errors.InvalidName, wrong, model.put, wrong, None)
            self.assert_given(errors.InvalidSketch, wrong, model.put, "a", wrong)
            self.assert_given(errors.InvalidName, wrong, model.rename, wrong, None)
            self.assert_given(errors.InvalidName, wrong, model.rename, "zz", wrong)
        self.assertEqual(model.steps(), (2, 0))

    def test_the_order_of_errors_of_put(self):
        model = with_names(a=nots(ALL, 5), b=nots(A, 5), c=nine_discs(), d=GREAT)
        unknown = ("name", "x")
        # Unknown, round, too deep and too much at once: told in this order.
        self.assert_given(errors.UnknownName, "x", model.put, "a", ("join", nots(B, 9), ("join", unknown, D)))
        self.assert_given(errors.ComesRound, "a", model.put, "a", ("join", nots(B, 9), ("join", D, D)))
        self.assert_given(errors.TooDeep, "e", model.put, "e", ("join", nots(B, 9), ("join", D, D)))
        error = raised(model.put, "e", ("join", nots(D, 5), ("join", C, LOW)))
        self.assertEqual((kind_of(error), error.given), (errors.TooMany, 210))
        error = raised(model.put, "e", ("join", C, LOW))
        self.assertEqual((kind_of(error), error.given), (errors.TooMany, 10))

    def test_the_least_name_is_told(self):
        model = with_names(m=DISC, z=nots(("name", "m"), 10), b=nots(("name", "m"), 10), k=("outside", ("name", "m")))
        self.assert_given(errors.TooDeep, "b", model.put, "m", nots(DISC, 2))
        self.assert_given(errors.TooDeep, "a", model.put, "a", nots(("name", "b"), 2))
        self.assert_given(errors.TooDeep, "b", model.put, "m", nots(DISC, 11))
        # M itself is not too deep, nor what comes ahead and does not use it.
        model = with_names(a=nots(ALL, 11), m=DISC, n=nots(("name", "m"), 10))
        self.assert_given(errors.TooDeep, "n", model.put, "m", nots(DISC, 2))
        model = with_names(m=DISC, z=("join", ("name", "m"), half_squares(25)), b=("join", ("name", "m"), half_squares(49)), c=("join", ("name", "m"), nine_discs()))
        for sketch, many in ((("join", half_squares(1), ALL), 201), (("join", half_squares(1), half_squares(1)), 204)):
            error = raised(model.put, "m", sketch)
            self.assertEqual((kind_of(error), error.given), (errors.TooMany, many))
        error = raised(model.put, "m", LOW)
        self.assertEqual((kind_of(error), error.given), (errors.TooMany, 10))
        # Each by itself: for the least name, of a size or of curves that are too many.
        model = with_names(m=NONE, a=("join", ("name", "m"), nine_discs()), b=("join", ("name", "m"), half_squares(49)))
        error = raised(model.put, "m", half_squares(2))
        self.assertEqual((kind_of(error), error.given), (errors.TooMany, 13))
        model.rename("a", "c")
        error = raised(model.put, "m", half_squares(2))
        self.assertEqual((kind_of(error), error.given), (errors.TooMany, 204))

    def test_size_200_and_twelve_deep_are_let(self):
        model = with_names(a=GREAT, b=nots(A, 8), c=nine_discs())
        self.assertEqual(deep(model.figure("b")), 12)
        self.assertIsNone(raised(model.put, "d", ("join", C, disc(0, 0, 1))))
        self.assert_given(errors.TooDeep, "d", model.put, "d", ("outside", B))

    def test_nothing_to_undo_or_redo(self):
        model = Model()
        for _ in range(2):
            self.assertIs(kind_of(raised(model.undo)), errors.NothingToUndo)
            self.assertIs(kind_of(raised(model.redo)), errors.NothingToRedo)
            self.assertEqual(model.steps(), (0, 0))
        model.put("a", ALL)
        self.assertIs(kind_of(raised(model.redo)), errors.NothingToRedo)
        model.undo()
        self.assertIs(kind_of(raised(model.undo)), errors.NothingToUndo)
        self.assertEqual(model.steps(), (0, 1))

    def test_the_same_sketch_again_is_a_step(self):
        model = with_names(a=ALL)
        model.put("a", ALL)
        self.assertEqual(model.steps(), (2, 0))
        model.undo()
        self.assertEqual((model.sketch("a"), model.steps()), (ALL, (1, 1)))

    def test_models_by_themselves(self):
        first, second = with_names(a=ALL), Model()
        second.put("a", NONE)
        first.put("b", A)
        self.assertEqual((first.figure("b"), second.names(), second.figure("a")), (ALL, ("a",), NONE))
        book = first.book()
        third, fourth = model_of(book), model_of(book)
        third.put("a", LOW)
        self.assertEqual((third.figure("b"), fourth.figure("b"), first.figure("b"), book), (LOW, ALL, ALL, first.book()))

    def test_what_was_told_stays(self):
        model = with_names(a=ALL, b=A)
        told = state_of(model)
        kept = copy.deepcopy(told)
        model.put("a", NONE)
        model.rename("b", "c")
        self.assertEqual(told, kept)


def half_squares(many):
    """A figure of the size of so many squares, not deep."""
    parts = [SQUARE] * many
    while len(parts) > 1:
        parts = [("join", *parts[k:k + 2]) if k + 1 < len(parts) else parts[k] for k in range(0, len(parts), 2)]
    return parts[0]


class Books(Told, unittest.TestCase):
    def test_model_of(self):
        book = (("b", DISC), ("a", ("less", B, LOW)), ("z", LOW))
        model = model_of(book)
        self.assert_plain([model.names(), model.steps(), model.figure("a"), model.book()], [("a", "b", "z"), (0, 0), ("less", DISC, LOW), book])
        self.assertIs(kind_of(raised(model.undo)), errors.NothingToUndo)
        self.assert_plain(model_of(book=()).names(), ())
        self.assertIs(kind_of(model), Model)
        for wrong in ((("a", A),), (("a", B), ("b", ALL)), (("a", ALL), ("a", LOW)), [("a", ALL)], (("box", ALL),), (("a", nots(ALL, 12)),), (("a", nots(ALL, 6)), ("b", nots(A, 6))), None, "a", ((),)):
            self.assert_given(errors.InvalidScene, wrong, model_of, wrong)
        for wrong, many in (((("a", GREAT), ("b", ("join", A, ALL))), 201), ((("a", nine_discs()), ("b", ("join", A, LOW)), ("c", ("repeat", 6, EAST, GREAT))), 10)):
            error = raised(model_of, wrong)
            self.assertEqual((kind_of(error), error.given), (errors.TooMany, many))

    def test_the_order_of_books(self):
        model = with_names(z=ALL, y=("name", "z"), a=("name", "y"), m=NONE, b=("join", ("name", "m"), ("name", "a")), x=LOW)
        self.assert_plain([name for name, _ in model.book()], ["m", "x", "z", "y", "a", "b"])
        self.assert_plain([name for name, _ in model.scene("b")[0]], ["m", "z", "y", "a"])
        self.assert_plain([name for name, _ in model.scene("y")[0]], ["z"])
        # A name that is free early goes ahead of a lesser one that gets free later.
        model = with_names(c=ALL, b=C, a=B, d=C)
        self.assert_plain([name for name, _ in model.book()], ["c", "b", "a", "d"])
        model = with_names(a=ALL, c=A, b=C, d=A)
        self.assert_plain([name for name, _ in model.book()], ["a", "c", "b", "d"])

    def test_books_and_scenes_come_back(self):
        chance = random.Random(141)
        for _ in range(40):
            model = some_model(chance, 20)[0]
            again = model_of(model.book())
            self.assertEqual(state_of(again), state_of(model))
            for name in model.names():
                scene = model.scene(name)
                self.assertIs(is_scene(scene), True)
                self.assertEqual(scene_figure(scene), model.figure(name))
                self.assertEqual(read_scene(scene_text(scene)), scene)

    def test_long_rows_of_names(self):
        model = with_names(a0=DISC)
        for k in range(1, 300):
            model.put(f"a{k}", ("name", f"a{k - 1}"))
        self.assertEqual((len(model.uses("a299")), len(model.used_by("a0")), model.figure("a299")), (299, 299, DISC))
        model.put("a0", SQUARE)
        self.assertEqual(model.figure("a299"), SQUARE)
        self.assertEqual([name for name, _ in model.book()], [f"a{k}" for k in range(300)])
        self.assert_given(errors.ComesRound, "a0", model.put, "a0", ("name", "a299"))


def some_step(chance, names):
    """The name of a method and its arguments, mostly such as may go on."""
    word = chance.choice(("put", "put", "put", "rename", "strike", "undo", "undo", "redo"))
    if word == "put":
        sketch = sketch_of(some_tree(chance, chance.randint(1, 3), list(chance.choice((names, "abcdefg"))), 0))
        return word, (chance.choice("abcdefg"), nots(sketch, chance.choice((0, 0, 0, 0, 0, 2, 5))))
    if word == "rename":
        return word, (chance.choice("abcdefg"), chance.choice("abcdefgh"))
    return word, ((chance.choice("abcdefg"),) if word == "strike" else ())


def some_model(chance, many):
    model, plain = Model(), Plain()
    for _ in range(many):
        word, args = some_step(chance, model.names())
        raised(getattr(model, word), *args)
        getattr(plain, word)(*args)
    return model, plain


class AnySteps(Told, unittest.TestCase):
    def test_as_the_plain_one(self):
        chance = random.Random(142)
        seen = {}
        for _ in range(40):
            model, plain = Model(), Plain()
            for _ in range(80):
                word, args = some_step(chance, model.names())
                error, wanted = raised(getattr(model, word), *args), getattr(plain, word)(*args)
                self.assertIs(kind_of(error), kind_of(wanted), (word, args, plain.sketches()))
                seen[kind_of(error)] = seen.get(kind_of(error), 0) + 1
                if error is not None:
                    self.assertEqual(repr(vars(error)), repr(vars(wanted)))
                self.assertEqual(model.steps(), (plain.now, len(plain.states) - 1 - plain.now))
                self.assertEqual(state_of(model), plain.state())
        for kind in (type(None), errors.UnknownName, errors.ComesRound, errors.NameTaken, errors.InUse, errors.TooDeep, errors.TooMany, errors.NothingToUndo, errors.NothingToRedo):
            self.assertGreater(seen.get(kind, 0), 0, kind)

    def test_undoing_and_redoing_all(self):
        chance = random.Random(143)
        for _ in range(15):
            book = some_model(chance, 25)[0].book()
            model = model_of(book)
            states = [state_of(model)]
            for _ in range(120):
                before = model.steps()
                word, args = some_step(chance, model.names())
                raised(getattr(model, word), *args)
                after = model.steps()
                if word in ("put", "rename", "strike") and after != before:
                    self.assertEqual(after, (before[0] + 1, 0))
                    states = states[:before[0] + 1] + [state_of(model)]
            done, undone = model.steps()
            now = state_of(model)
            self.assertEqual(now, states[done])
            for k in reversed(range(done)):
                model.undo()
                self.assertEqual(state_of(model), states[k])
            self.assertEqual(model.book(), model_of(book).book())
            self.assertEqual(model.steps(), (0, done + undone))
            self.assertIs(kind_of(raised(model.undo)), errors.NothingToUndo)
            for k in range(done + undone):
                model.redo()
                self.assertEqual(state_of(model), states[k + 1])
            self.assertIs(kind_of(raised(model.redo)), errors.NothingToRedo)

    def test_at_each_time(self):
        chance = random.Random(144)
        for _ in range(20):
            model = some_model(chance, 60)[0]
            for name in model.names():
                self.assertLessEqual(set(names_of(model.sketch(name))), set(model.names()))
                self.assertNotIn(name, model.uses(name))
                self.assertIs(is_figure(model.figure(name)), True)
                for other in model.names():
                    self.assertEqual(other in model.uses(name), name in model.used_by(other))


if __name__ == "__main__":
    unittest.main()
