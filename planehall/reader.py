"""Sketches, scenes, books and figures read from texts (DOC.md [28] to [30])."""

from planehall.filling import figures_of
from planehall.parsing import Reading, read_definitions, read_whole
from planehall.sketches import check_amount, rows_of_scene


def read_sketch(text):
    """The sketch that a text tells."""
    reading = Reading(text, None)
    sketch, _ = read_whole(reading)
    reading.close()
    return sketch


def read_scene(text):
    """The scene that a text tells."""
    reading = Reading(text, {})
    book = read_definitions(reading)
    sketch, _ = read_whole(reading)
    reading.close()
    check_amount(rows_of_scene((book, sketch)))
    return (book, sketch)


def read_book(text):
    """The definitions that a text tells."""
    reading = Reading(text, {})
    book = read_definitions(reading)
    reading.close()
    check_amount(book)
    return book


def read_figure(text):
    """The figure that a text tells as a scene."""
    return figures_of(rows_of_scene(read_scene(text)))[-1]
