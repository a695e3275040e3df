"""Names in sketches, and what stands for them, without checks (DOC.md [29], [30] and [32]).

A row is a pair of a name and a sketch, each name of the sketch being that of a
row ahead; the name of a scene's last sketch is None.
"""

from planehall.figures import excess_of
from planehall.shapes import parts_of


def names_of(sketch):
    """The tuple of all names in a sketch, each once, from left to right."""
    found = {name: True for name in all_names(sketch)}
    return tuple(found)


def all_names(sketch):
    if sketch[0] == "name":
        return [sketch[1]]
    return [name for part in parts_of(sketch) for name in all_names(part)]


def filled(sketch, table):
    """A sketch with what a dict tells in the place of each name in it, other names staying."""
    if sketch[0] == "name":
        return table.get(sketch[1], sketch)
    parts = [filled(part, table) for part in parts_of(sketch)]
    return sketch[:len(sketch) - len(parts)] + tuple(parts)


def filled_depth(sketch, depths):
    """How deep a sketch is with its names filled, a dict telling how deep what stands for them is."""
    if sketch[0] == "name":
        return depths[sketch[1]]
    return 1 + max([filled_depth(part, depths) for part in parts_of(sketch)], default=0)


def figures_of(rows):
    """The list of what the sketches of rows are, filled."""
    table, figures = {}, []
    for name, sketch in rows:
        figure = filled(sketch, table)
        figures.append(figure)
        table[name] = figure
    return figures


def excess_of_rows(rows):
    """The size or the number of curves of the first sketch, filled, that is too much; None if none is."""
    for figure in figures_of(rows):
        many = excess_of(figure)
        if many is not None:
            return many
    return None
