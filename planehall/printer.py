"""The plain texts of sketches, books and scenes (DOC.md [31])."""

from planehall.leading import NIL, ONE
from planehall.meets import ORIGIN
from planehall.sketches import check_book, check_scene, check_sketch
from planehall.words import plain_text

SIGNS = {"join": "|", "less": "-", "common": "&"}


def sketch_text(sketch):
    """The plain text of a sketch."""
    check_sketch(sketch)
    return text_of(sketch)


def book_text(book):
    """The text of definitions, a line for each."""
    check_book(book)
    return text_of_book(book)


def scene_text(scene):
    """The text of a scene: its definitions, and its last sketch behind them."""
    check_scene(scene)
    return text_of_book(scene[0]) + text_of(scene[1])


def text_of_book(book):
    return "".join([f"let {name} = {text_of(sketch)};\n" for name, sketch in book])


def text_of(sketch):
    match sketch:
        case ("name", name):
            return name
        case ("half", a, b, c):
            return f"half({pair_text((a, b))}, {plain_text(c)})"
        case ("disc", x, y, q):
            return f"disc({pair_text((x, y))}; {plain_text(q)})"
        case ("box", low, high):
            return f"box({pair_text(low)}; {pair_text(high)})"
        case ("polygon", corners):
            points = ", ".join([f"({pair_text(corner)})" for corner in corners])
            return f"polygon({points})"
        case ("join" | "less" | "common", first, second):
            # A common is closer than a join or less, and what stands behind a sign closer than what stands ahead.
            close = closeness(sketch)
            return f"{closed_text(first, close)} {SIGNS[sketch[0]]} {closed_text(second, close + 1)}"
        case ("outside", inner):
            return f"not {closed_text(inner, 2)}"
        case ("led", lead, inner):
            return f"{lead_text(lead)} {closed_text(inner, 2)}"
        case ("repeat", count, step, inner):
            return f"repeat({count}; {pair_text(step)}) {closed_text(inner, 2)}"
    return sketch[0]


def closeness(sketch):
    """0 for a join or less, 1 for a common, 2 for all else."""
    if sketch[0] in ("join", "less"):
        return 0
    return 1 if sketch[0] == "common" else 2


def closed_text(sketch, close):
    """The text of a sketch, with a bracket round it if it is less close."""
    text = text_of(sketch)
    return text if closeness(sketch) >= close else f"({text})"


def pair_text(pair):
    return f"{plain_text(pair[0])}, {plain_text(pair[1])}"


def lead_text(lead):
    a, b, is_mirrored, shift = lead
    if not is_mirrored and a == ONE and b == NIL:
        return f"move({pair_text(shift)})"
    if not is_mirrored and b == NIL and shift == ORIGIN:
        return f"scale({plain_text(a)})"
    word = "flip" if is_mirrored else "lead"
    return f"{word}({pair_text((a, b))}; {pair_text(shift)})"
