"""Where leads lead places and curves, and leads one behind the other, without checks (DOC.md [26])."""

from planehall.surds import add, divide, multiply, negative, squared

NIL = (0, 1)
ONE = (1, 1)


def turned(lead, way):
    """Where a lead leads a place, its SHIFT left out."""
    a, b, is_mirrored, _ = lead
    x, y = way
    height = negative(y) if is_mirrored else y
    return (add(multiply(a, x), multiply(negative(b), height)), add(multiply(b, x), multiply(a, height)))


def image_of(lead, place):
    """The place to which a lead leads a place."""
    x, y = turned(lead, place)
    return (add(x, lead[3][0]), add(y, lead[3][1]))


def widening(lead):
    """By how much a lead multiplies squares of distances."""
    return add(squared(lead[0]), squared(lead[1]))


def image_of_curve(lead, curve):
    """The curve to which a lead leads a curve, inside to inside, a line not made its form."""
    kind, a, b, c = curve
    wide = multiply(widening(lead), c)
    if kind == "circle":
        x, y = image_of(lead, (a, b))
        return ("circle", x, y, wide)
    x, y = turned(lead, (a, b))
    return ("line", x, y, add(wide, add(multiply(x, lead[3][0]), multiply(y, lead[3][1]))))


def after(lead, later):
    """The lead that leads as the first one and then as the later one."""
    a, b = turned(later, lead[:2])
    return (a, b, lead[2] != later[2], image_of(later, lead[3]))


def undoing(lead):
    """The lead that leads back."""
    a, b, is_mirrored, shift = lead
    wide = widening(lead)
    # As numbers x + y i: 1 over A + B i is A - B i over A A + B B; a mirrored lead takes the opposite of B once more.
    first, second = divide(a, wide), divide(b if is_mirrored else negative(b), wide)
    x, y = turned((first, second, is_mirrored, shift), shift)
    return (first, second, is_mirrored, (negative(x), negative(y)))


def moving(shift):
    """The lead that moves all places by a point."""
    return (ONE, NIL, False, shift)
