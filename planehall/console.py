"""Lines that put, ask and draw what a new model keeps (DOC.md [28] to [34])."""

from planehall.compare import are_apart, is_bounded, is_empty, is_same, is_within
from planehall.errors import BadText, InvalidLines, NothingToRedo, NothingToUndo, PlaneError
from planehall.letters import letters
from planehall.meaning import telling
from planehall.models import Model
from planehall.printer import sketch_text
from planehall.reader import read_sketch
from planehall.roots import is_whole
from planehall.sketches import check_name
from planehall.surds import reduced
from planehall.words import are_digits

DONE = "done"
UNKNOWN = "?"


def run(lines):
    """The tuple of what a new model answers to a tuple of lines, in order."""
    check_lines(lines)
    model = Model()
    answers = []
    for line in lines:
        answers.append(answered(model, line))
    return tuple(answers)


def check_lines(lines):
    if not isinstance(lines, tuple):
        raise InvalidLines(None)
    for index, line in enumerate(lines):
        if not isinstance(line, str):
            raise InvalidLines(index)


def answered(model, line):
    """What a model answers to a line, errors included."""
    try:
        return put(model, line) if "=" in line else answer_to(model, [word for word in line.split(" ") if word])
    except BadText as fault:
        return refusal(fault.kind(), fault.spot)
    except (NothingToUndo, NothingToRedo) as nothing:
        return refusal(nothing.kind(), None)
    except PlaneError as error:
        # All other errors that a line can raise tell what was given.
        return refusal(error.kind(), error.given)


def refusal(kind, told):
    if isinstance(told, str) or is_whole(told):
        return f"? {kind} {told}"
    return f"? {kind}"


def put(model, line):
    """Puts the sketch of the text behind the first = under the name ahead of it."""
    ahead, _, text = line.partition("=")
    name = ahead.strip(" ")
    check_name(name)
    # Blanks stand for what is ahead of the text, so that spots are counted in the line.
    model.put(name, read_sketch(" " * (len(ahead) + 1) + text))
    return DONE


def answer_to(model, words):
    """What a model answers to the words of a line."""
    match words:
        case []:
            return ""
        case ["rename", name, other_name]:
            model.rename(name, other_name)
            return DONE
        case ["strike", name]:
            model.strike(name)
            return DONE
        case ["undo"]:
            model.undo()
            return DONE
        case ["redo"]:
            model.redo()
            return DONE
        case ["names"]:
            return " ".join(model.names())
        case ["show", name]:
            return sketch_text(model.sketch(name))
        case ["whole", name]:
            return sketch_text(model.figure(name))
        case ["at", name, x, y]:
            return answer_at(model, name, [x, y])
        case ["letters", name, *numbers, digits]:
            return answer_letters(model, name, numbers, digits)
    return answer_whether(model, words)


def answer_whether(model, words):
    """What a model answers to words that ask whether something is so."""
    match words:
        case ["empty", name]:
            return yes_or_no(is_empty(model.figure(name)))
        case ["bounded", name]:
            return yes_or_no(is_bounded(model.figure(name)))
        case ["same", name, other_name]:
            return yes_or_no(is_same(model.figure(name), model.figure(other_name)))
        case ["within", name, other_name]:
            return yes_or_no(is_within(model.figure(name), model.figure(other_name)))
        case ["apart", name, other_name]:
            return yes_or_no(are_apart(model.figure(name), model.figure(other_name)))
    return UNKNOWN


def yes_or_no(is_so):
    return "yes" if is_so else "no"


def answer_at(model, name, words):
    place = tuple([fraction_of(word) for word in words])
    if None in place:
        return UNKNOWN
    return telling(model.figure(name), place)


def answer_letters(model, name, words, digits):
    numbers = tuple([fraction_of(word) for word in words])
    if len(numbers) != 4 or None in numbers or not are_digits(digits):
        return UNKNOWN
    return "\n".join(letters(model.figure(name), numbers[:2], numbers[2:], int(digits)))


def fraction_of(word):
    """The fraction that a NUMBER without blanks tells; None for a word that is none, or has 0 behind /."""
    top, stroke, bottom = word.removeprefix("-").partition("/")
    if not are_digits(top) or (stroke and not are_digits(bottom)):
        return None
    many = int(bottom) if stroke else 1
    if many == 0:
        return None
    return reduced(-int(top) if word.startswith("-") else int(top), many)
