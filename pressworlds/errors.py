"""The errors of the package: three base classes, and below each the classes that belong to it.

Each class sets its own attribute, as no class of the package may stand between it and its base.
"""


class WrongValue(ValueError):
    """A value that is not as the call asks for."""


class InvalidText(WrongValue):
    """No text of what is read."""

    def __init__(self, given):
        self.given = given


class InvalidName(WrongValue):
    """No name."""

    def __init__(self, given):
        self.given = given


class InvalidNumber(WrongValue):
    """No number of the kind that is asked for."""

    def __init__(self, given):
        self.given = given


class InvalidLetters(WrongValue):
    """No number of letters."""

    def __init__(self, given):
        self.given = given


class InvalidWord(WrongValue):
    """No word of these letters."""

    def __init__(self, given):
        self.given = given


class InvalidSide(WrongValue):
    """No side of a slide."""

    def __init__(self, given):
        self.given = given


class InvalidFactor(WrongValue):
    """No factor of a view."""

    def __init__(self, given):
        self.given = given


class InvalidZoom(WrongValue):
    """No zoom of a view."""

    def __init__(self, given):
        self.given = given


class InvalidShift(WrongValue):
    """No shift of a view."""

    def __init__(self, given):
        self.given = given


class InvalidLevels(WrongValue):
    """No levels of a lamp."""

    def __init__(self, given):
        self.given = given


class InvalidWalk(WrongValue):
    """No row of steps."""

    def __init__(self, given):
        self.given = given


class InvalidPlan(WrongValue):
    """No plan of the lot."""

    def __init__(self, given):
        self.given = given


class InvalidWish(WrongValue):
    """No wish."""

    def __init__(self, given):
        self.given = given


class InvalidLine(WrongValue):
    """No line that a console knows."""

    def __init__(self, given):
        self.given = given


class InvalidNumbers(WrongValue):
    """No numbers of a point."""

    def __init__(self, given):
        self.given = given


class NotAChange(WrongValue):
    """No change of the world."""

    def __init__(self, given):
        self.given = given


class NotALot(WrongValue):
    """No lot of the world."""

    def __init__(self, given):
        self.given = given


class NotALead(WrongValue):
    """No lead."""

    def __init__(self, given):
        self.given = given


class InvalidLamps(WrongValue):
    """No picture; the index of the first lamp that is wrong."""

    def __init__(self, index):
        self.index = index


class InvalidChanges(WrongValue):
    """No changes of a lot; the index of the first one that is wrong."""

    def __init__(self, index):
        self.index = index


class InvalidLog(WrongValue):
    """No log; the index of the first deed that is wrong."""

    def __init__(self, index):
        self.index = index


class WrongName(LookupError):
    """A name that cannot be used so."""


class UnknownName(WrongName):
    """No name of the library."""

    def __init__(self, given):
        self.given = given


class InUse(WrongName):
    """A name that a wish speaks of; the index of the first such wish."""

    def __init__(self, index):
        self.index = index


class NotPossible(ArithmeticError):
    """What valid values do not allow."""


class OtherWorld(NotPossible):
    """A change or a lot of another world than the first one."""

    def __init__(self, given):
        self.given = given


class TooGreat(NotPossible):
    """A change that is too great for its world; how great it would be."""

    def __init__(self, given):
        self.given = given


class TooFar(NotPossible):
    """A change that is not near."""

    def __init__(self, given):
        self.given = given


class TooMany(NotPossible):
    """More than are looked for."""

    def __init__(self, given):
        self.given = given


class NothingToUndo(NotPossible):
    """Nothing is left that could be taken back."""


class Broken(NotPossible):
    """A wish that would not hold; its index."""

    def __init__(self, index):
        self.index = index
