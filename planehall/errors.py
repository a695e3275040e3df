"""The errors of the package: each stands under PlaneError alone (DOC.md [4])."""


class PlaneError(ValueError):
    """Any error of this package."""

    def kind(self):
        """The name of its class."""
        return self.__class__.__name__


class InvalidFraction(PlaneError):
    """Told of a value that is no fraction."""

    def __init__(self, given):
        self.given = given


class InvalidNumber(PlaneError):
    """Told of a value that is no number, or one of another field."""

    def __init__(self, given):
        self.given = given


class InvalidPoint(PlaneError):
    """Told of a value that is no point."""

    def __init__(self, given):
        self.given = given


class InvalidPlace(PlaneError):
    """Told of a value that is no place."""

    def __init__(self, given):
        self.given = given


class InvalidWay(PlaneError):
    """Told of a value that is no way."""

    def __init__(self, given):
        self.given = given


class InvalidCurve(PlaneError):
    """Told of a value that is no curve."""

    def __init__(self, given):
        self.given = given


class InvalidLead(PlaneError):
    """Told of a value that is no lead."""

    def __init__(self, given):
        self.given = given


class InvalidFigure(PlaneError):
    """Told of a value that is no figure."""

    def __init__(self, given):
        self.given = given


class InvalidSketch(PlaneError):
    """Told of a value that is no sketch."""

    def __init__(self, given):
        self.given = given


class InvalidScene(PlaneError):
    """Told of a value that is no scene."""

    def __init__(self, given):
        self.given = given


class InvalidName(PlaneError):
    """Told of a value that is no free name."""

    def __init__(self, given):
        self.given = given


class UnknownName(PlaneError):
    """Told of a name that stands for nothing."""

    def __init__(self, given):
        self.given = given


class NameTaken(PlaneError):
    """Told of a name that stands for something already."""

    def __init__(self, given):
        self.given = given


class InUse(PlaneError):
    """Told of a name that another sketch still has."""

    def __init__(self, given):
        self.given = given


class ComesRound(PlaneError):
    """Told of a name that would use itself."""

    def __init__(self, given):
        self.given = given


class TooDeep(PlaneError):
    """Told of a name of which the sketch, filled, would be too deep."""

    def __init__(self, given):
        self.given = given


class TooMany(PlaneError):
    """Told of a size or a number of curves that is too great."""

    def __init__(self, given):
        self.given = given


class InvalidIndex(PlaneError):
    """Told of a value that is no index."""

    def __init__(self, given):
        self.given = given


class InvalidCount(PlaneError):
    """Told of a value that is no count."""

    def __init__(self, given):
        self.given = given


class InvalidView(PlaneError):
    """Told of a value that is no view."""

    def __init__(self, given):
        self.given = given


class InvalidPicture(PlaneError):
    """Told of a value that is no picture."""

    def __init__(self, given):
        self.given = given


class InvalidCurves(PlaneError):
    """Told of curves of which the one at the index is wrong."""

    def __init__(self, index):
        self.index = index


class InvalidRow(PlaneError):
    """Told of a row of which the part at the index is wrong."""

    def __init__(self, index):
        self.index = index


class InvalidLines(PlaneError):
    """Told of lines of which the one at the index is wrong."""

    def __init__(self, index):
        self.index = index


class InvalidBytes(PlaneError):
    """Told of bytes of which the one at the index is wrong."""

    def __init__(self, index):
        self.index = index


class BadText(PlaneError):
    """Told of a text that is wrong at the spot."""

    def __init__(self, spot):
        self.spot = spot


class NotBounded(PlaneError):
    """Told of a figure that is not bounded."""


class NothingInside(PlaneError):
    """Told of a figure without any place in it."""


class NotStraight(PlaneError):
    """Told of a figure with a piece of a circle."""


class NothingToUndo(PlaneError):
    """Told of a model without a step to undo."""


class NothingToRedo(PlaneError):
    """Told of a model without a step to redo."""
