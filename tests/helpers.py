"""What several tests use: values that are wrong, errors that are raised, numbers to many digits."""

from decimal import Decimal, localcontext
from fractions import Fraction

NIL, HALF, ONE, TWO, THREE, FOUR, MINUS = (0, 1), (1, 2), (1, 1), (2, 1), (3, 1), (4, 1), (-1, 1)
ROOT_TWO, ROOT_THREE = (1, 0, -2, True), (1, 0, -3, True)
RING, FLOOR, POST = ("circle", NIL, NIL, ONE), ("line", NIL, ONE, NIL), ("line", ONE, NIL, NIL)
DIGITS = 160


def nested(depth):
    value = ()
    for _ in range(depth - 1):
        value = (value,)
    return value


# Values that are no number, point, place, curve, curves, count or index at all.
STRAY = (
    None, True, False, "", "line", "1/2", "(1, 2)", b"", b"line", (), [], {}, set(), frozenset(), object(), len, int,
    Ellipsis, nested(30), [[]], [NIL], {0: 1}, {"line": 1}, Fraction(1, 2), Decimal(1), (None,), (None, None),
    (True, True), ("1", "2"), ((), ()), ((), (), (), ()), (None, None, None, None), ("line",), ("circle",), ("", "", "", ""),
    (len, len), ({}, []),
)


def spoilt(value):
    """The list of values that differ from a number, point, place or curve in one part, and are none."""
    if isinstance(value, bool):
        return [int(value), 1 - int(value), None, str(value), (value,), [value], 2]
    if isinstance(value, int):
        return [True, False, None, str(value), (value,), [value], object()]
    if isinstance(value, str):
        words = [word for word in ("", "disc", "half") if word != value]
        return words + [value + "s", value.upper(), None, 0, True, value.encode(), (value,), [value]]
    wrong = [list(value), value + value[-1:], value + (None,), value[:-1], (), None, "", 0, True, {}, (value,), [value]]
    for k, part in enumerate(value):
        wrong += [value[:k] + (bad,) + value[k + 1:] for bad in spoilt(part)]
    return wrong


def raised(call, *args, **named):
    """The error of this package that a call raises; None if it raises none."""
    from planehall.errors import PlaneError
    try:
        call(*args, **named)
    except PlaneError as error:
        return error
    return None


class Told:
    """Checks for test cases: errors with what they tell, and plain kinds of results."""

    def assert_given(self, kind, given, call, *args, **named):
        error = raised(call, *args, **named)
        self.assertIs(kind_of(error), kind, (args, named))
        self.assertIs(error.given, given)

    def assert_index(self, index, call, *args, **named):
        from planehall.errors import InvalidCurves
        error = raised(call, *args, **named)
        self.assertIs(kind_of(error), InvalidCurves, (args, named))
        self.assertIs(kind_of(error.index), kind_of(index))
        self.assertEqual(error.index, index)

    def assert_plain(self, value, wanted):
        """Equal, and alike in kind throughout: True is not 1, a list is no tuple."""
        self.assertEqual(repr(value), repr(wanted))


def kind_of(value):
    return value.__class__


def decimal(number):
    """A fraction or root to many digits, without the package."""
    with localcontext() as context:
        context.prec = DIGITS
        if len(number) == 2:
            return Decimal(number[0]) / Decimal(number[1])
        first, middle, rest, is_upper = number
        root = Decimal(middle * middle - 4 * first * rest).sqrt()
        return (-middle + (root if is_upper else -root)) / Decimal(2 * first)


def is_near(value, other, slack=Decimal(10) ** -60):
    with localcontext() as context:
        context.prec = DIGITS
        return abs(value - other) <= slack * (1 + abs(value))


def pair(value):
    """The fraction of the package for a Fraction or a whole number."""
    value = Fraction(value)
    return (value.numerator, value.denominator)


def fraction(value):
    return Fraction(value[0], value[1])


def line(a, b, c):
    return ("line", pair(a), pair(b), pair(c))


def circle(x, y, q):
    return ("circle", pair(x), pair(y), pair(q))


def point(x, y):
    return (pair(x), pair(y))
