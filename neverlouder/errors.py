"""The errors of the package, those of later stages too."""


class BoxError(ValueError):
    """What was passed is not what is wanted."""


class InvalidNumber(BoxError):
    def __init__(self, value):
        self.value = value


class InvalidRatio(BoxError):
    def __init__(self, value):
        self.value = value


class InvalidMany(BoxError):
    def __init__(self, value):
        self.value = value


class InvalidPoint(BoxError):
    def __init__(self, value):
        self.value = value


class InvalidCurve(BoxError):
    def __init__(self, value):
        self.value = value


class InvalidRow(BoxError):
    def __init__(self, value):
        self.value = value


class InvalidBox(BoxError):
    def __init__(self, value):
        self.value = value


class InvalidTelling(BoxError):
    def __init__(self, position):
        self.position = position


class InvalidTable(BoxError):
    def __init__(self, value):
        self.value = value


class InvalidWeights(BoxError):
    def __init__(self, value):
        self.value = value


class DividedByZero(BoxError):
    """A number is divided by 0."""


class InvalidBound(BoxError):
    def __init__(self, value):
        self.value = value


class InvalidClaim(BoxError):
    def __init__(self, value):
        self.value = value


class InvalidCommand(BoxError):
    def __init__(self, value):
        self.value = value


class InvalidLines(BoxError):
    def __init__(self, position):
        self.position = position


class InvalidLinks(BoxError):
    def __init__(self, value):
        self.value = value


class InvalidNumbers(BoxError):
    def __init__(self, value):
        self.value = value


class InvalidPaper(BoxError):
    def __init__(self, value):
        self.value = value


class InvalidPoints(BoxError):
    def __init__(self, value):
        self.value = value


class InvalidPositions(BoxError):
    def __init__(self, value):
        self.value = value


class InvalidRows(BoxError):
    def __init__(self, value):
        self.value = value


class InvalidShare(BoxError):
    def __init__(self, value):
        self.value = value


class InvalidSteps(BoxError):
    def __init__(self, value):
        self.value = value


class InvalidText(BoxError):
    def __init__(self, line):
        self.line = line


class InvalidThing(BoxError):
    def __init__(self, value):
        self.value = value


class InvalidTurn(BoxError):
    def __init__(self, value):
        self.value = value


class InvalidUnit(BoxError):
    def __init__(self, value):
        self.value = value


class TooShort(BoxError):
    def __init__(self, many):
        self.many = many


class UnlikeSizes(BoxError):
    def __init__(self, first, second):
        self.first = first
        self.second = second


class MissingError(LookupError):
    """Nothing is kept under what was passed."""


class UnknownLabel(MissingError):
    def __init__(self, value):
        self.value = value


class UnknownName(MissingError):
    def __init__(self, value):
        self.value = value


class UnknownPoint(MissingError):
    def __init__(self, value):
        self.value = value


class StateError(RuntimeError):
    """What is wanted cannot be done with these things."""


class NotDoable(StateError):
    """No box that is never louder does the telling."""


class NoChoice(StateError):
    """The telling is not done by many boxes."""


class CommandFailed(StateError):
    def __init__(self, position):
        self.position = position


class LabelTaken(StateError):
    def __init__(self, label):
        self.label = label


class NameTaken(StateError):
    def __init__(self, name):
        self.name = name


class NoBox(StateError):
    """There is no box at the end."""


class NoMember(StateError):
    """There is no such member, or no such free box."""


class NoStep(StateError):
    """No step can be taken."""


class NoWorth(StateError):
    def __init__(self, point):
        self.point = point


class NotAlike(StateError):
    """The tellings are not alike in points."""


class NotDone(StateError):
    """The box does not do the telling."""


class NotKeeper(StateError):
    """The box does not keep all force."""


class NotNought(StateError):
    """The worth is not 0."""


class NotOnRim(StateError):
    """The number is not on the rim."""


class NotOne(StateError):
    """The telling is not done by just one box."""


class NotSteady(StateError):
    """The curve is not steady."""


class NotTwo(StateError):
    """The telling is not one of two tolds with a single answer each."""


class NothingToRedo(StateError):
    """No deed was taken back last."""


class NothingToUndo(StateError):
    """No deed is left to be taken back."""


class NoughtCurve(StateError):
    """The curve is nought."""


class NoughtStart(StateError):
    """The curve begins with 0."""


class SamePoint(StateError):
    """The two points are one."""


class TooLoud(StateError):
    def __init__(self, position):
        self.position = position


class LimitError(ArithmeticError):
    """More is wanted than is allowed."""


class TooMany(LimitError):
    def __init__(self, what, limit):
        self.what = what
        self.limit = limit
