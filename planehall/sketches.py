"""Sketches and scenes: figures with names in them, and what these stand for (DOC.md [29] and [32])."""

from planehall.errors import InvalidName, InvalidScene, InvalidSketch, TooMany
from planehall.figures import MOST_DEEP
from planehall.filling import excess_of_rows, figures_of, filled, filled_depth, names_of
from planehall.shapes import has_form
from planehall.words import is_free_name


def is_sketch(value):
    """Whether a value, whatever it is, is a sketch."""
    return has_form(value, MOST_DEEP, True)


def is_scene(value):
    """Whether a value, whatever it is, is a scene, none of its sketches, filled, being too much."""
    return has_scene_form(value) and excess_of_rows(rows_of_scene(value)) is None


def has_scene_form(value):
    if not isinstance(value, tuple) or len(value) != 2:
        return False
    depths = depths_of(value[0])
    return depths is not None and is_let_behind(value[1], depths)


def depths_of(value):
    """The dict of how deep each sketch of DEFINITIONS is, filled; None for a value that is none of a scene."""
    if not isinstance(value, tuple):
        return None
    depths = {}
    for row in value:
        if not isinstance(row, tuple) or len(row) != 2:
            return None
        name, sketch = row
        if not is_free_name(name) or name in depths or not is_let_behind(sketch, depths):
            return None
        depths[name] = filled_depth(sketch, depths)
    return depths


def is_let_behind(value, depths):
    """Whether a value is a sketch of names that have a depth, and not too deep with these filled."""
    if not is_sketch(value):
        return False
    if [name for name in names_of(value) if name not in depths]:
        return False
    return filled_depth(value, depths) <= MOST_DEEP


def rows_of_scene(scene):
    """The tuple of the rows of a scene: its definitions, and its last sketch without a name."""
    return scene[0] + ((None, scene[1]),)


def check_amount(rows):
    many = excess_of_rows(rows)
    if many is not None:
        raise TooMany(many)


def check_sketch(sketch):
    if not is_sketch(sketch):
        raise InvalidSketch(sketch)


def check_name(name):
    if not is_free_name(name):
        raise InvalidName(name)


def check_book(book):
    """Raises InvalidScene for what is no DEFINITIONS of a scene, TooMany if one of them is too much."""
    if depths_of(book) is None:
        raise InvalidScene(book)
    check_amount(book)


def check_scene(scene):
    if not has_scene_form(scene):
        raise InvalidScene(scene)
    check_amount(rows_of_scene(scene))


def names_in(sketch):
    """The tuple of all names in a sketch, each once, in the order of its plain text."""
    check_sketch(sketch)
    return names_of(sketch)


def renamed(sketch, name, other_name):
    """A sketch with the other name in the place of each one such."""
    check_sketch(sketch)
    check_name(name)
    check_name(other_name)
    return filled(sketch, {name: ("name", other_name)})


def scene_figure(scene):
    """The last sketch of a scene, its names filled."""
    check_scene(scene)
    return figures_of(rows_of_scene(scene))[-1]
