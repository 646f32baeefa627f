"""The errors of the package.

The messages do not show the values: a value may be a number with more figures
than Python turns into a string.
"""


class FreeError(ValueError):
    """A value that the package cannot take."""


class NotPrime(FreeError):
    """The value is no prime from 2 to 97."""

    def __init__(self, value):
        super().__init__("the value is no prime from 2 to 97")
        self.value = value
        self.code = "NotPrime"


class InvalidName(FreeError):
    """The value is no name."""

    def __init__(self, name):
        super().__init__("the value is no name")
        self.name = name
        self.code = "InvalidName"


class InvalidNumber(FreeError):
    """The value is no number of the kind that is asked for."""

    def __init__(self, value):
        super().__init__("the value is no number of the kind that is asked for")
        self.value = value
        self.code = "InvalidNumber"


class InvalidForm(FreeError):
    """The value with this index is no form."""

    def __init__(self, at):
        super().__init__("the value with this index is no form")
        self.at = at
        self.code = "InvalidForm"


class InvalidRow(FreeError):
    """The value with this index is no row of the right kind; -1: the list is none."""

    def __init__(self, at):
        super().__init__("the value with this index is no row of the right kind")
        self.at = at
        self.code = "InvalidRow"


class InvalidLifts(FreeError):
    """The lift with this index is no number; -1: the lifts are none."""

    def __init__(self, at):
        super().__init__("the lift with this index is no number")
        self.at = at
        self.code = "InvalidLifts"


class InvalidCondition(FreeError):
    """The value with this index is no condition."""

    def __init__(self, at):
        super().__init__("the value with this index is no condition")
        self.at = at
        self.code = "InvalidCondition"


class InvalidColumn(FreeError):
    """The value with this index is no column; -1: the list is none."""

    def __init__(self, at):
        super().__init__("the value with this index is no column")
        self.at = at
        self.code = "InvalidColumn"


class InvalidPoint(FreeError):
    """The value with this index is no point; -1: the list is none."""

    def __init__(self, at):
        super().__init__("the value with this index is no point")
        self.at = at
        self.code = "InvalidPoint"


class InvalidTable(FreeError):
    """The row with this index does not fit the table; -1: the table is none."""

    def __init__(self, at):
        super().__init__("the row with this index does not fit the table")
        self.at = at
        self.code = "InvalidTable"


class InvalidDeed(FreeError):
    """The value with this index is no deed; -1: the list is none."""

    def __init__(self, at):
        super().__init__("the value with this index is no deed")
        self.at = at
        self.code = "InvalidDeed"


class InvalidQuestion(FreeError):
    """The value is no question."""

    def __init__(self):
        super().__init__("the value is no question")
        self.code = "InvalidQuestion"


class InvalidText(FreeError):
    """The line with this index is wrong, and a word says why."""

    def __init__(self, line, why):
        super().__init__("the line with this index is wrong, and a word says why")
        self.line = line
        self.why = why
        self.code = "InvalidText"


class Unlike(FreeError):
    """The values do not go together."""

    def __init__(self):
        super().__init__("the values do not go together")
        self.code = "Unlike"


class LowRank(FreeError):
    """The span is not full; this is its rank."""

    def __init__(self, rank):
        super().__init__("the span is not full")
        self.rank = rank
        self.code = "LowRank"


class NotWhole(FreeError):
    """The forms have this common divisor."""

    def __init__(self, divisor):
        super().__init__("the forms have this common divisor")
        self.divisor = divisor
        self.code = "NotWhole"


class NotIn(FreeError):
    """The row is not in the span; this is its rest."""

    def __init__(self, rest):
        super().__init__("the row is not in the span")
        self.rest = rest
        self.code = "NotIn"


class Beyond(FreeError):
    """The lowest height is too great for so few pairs that are met."""

    def __init__(self, met, height):
        super().__init__("the lowest height is too great for so few pairs that are met")
        self.met = met
        self.height = height
        self.code = "Beyond"


class NoSplit(FreeError):
    """The determinant of the table has not exactly one term."""

    def __init__(self, determinant):
        super().__init__("the determinant of the table has not exactly one term")
        self.determinant = determinant
        self.code = "NoSplit"


class SamePoint(FreeError):
    """This point stands there twice."""

    def __init__(self, point):
        super().__init__("this point stands there twice")
        self.point = point
        self.code = "SamePoint"


class NoAnswer(FreeError):
    """There is no answer."""

    def __init__(self):
        super().__init__("there is no answer")
        self.code = "NoAnswer"


class Undetermined(FreeError):
    """There are several rules: the prime to this power."""

    def __init__(self, free):
        super().__init__("there are several rules: the prime to this power")
        self.free = free
        self.code = "Undetermined"


class NotOff(FreeError):
    """The point is on the curve; this is its meeting form."""

    def __init__(self, meeting):
        super().__init__("the point is on the curve")
        self.meeting = meeting
        self.code = "NotOff"


class Still(FreeError):
    """All forms of the curve are constants."""

    def __init__(self):
        super().__init__("all forms of the curve are constants")
        self.code = "Still"


class Singular(FreeError):
    """The determinant is 0."""

    def __init__(self):
        super().__init__("the determinant is 0")
        self.code = "Singular"


class TooMany(FreeError):
    """There are too many items to list: the prime to this power."""

    def __init__(self, free):
        super().__init__("there are too many items to list: the prime to this power")
        self.free = free
        self.code = "TooMany"


class Full(FreeError):
    """There are as many items as there may be."""

    def __init__(self, most):
        super().__init__("there are as many items as there may be")
        self.most = most
        self.code = "Full"


class Taken(FreeError):
    """There is a holding with this name already."""

    def __init__(self, name):
        super().__init__("there is a holding with this name already")
        self.name = name
        self.code = "Taken"


class WrongKind(FreeError):
    """The holding with this name is of another kind."""

    def __init__(self, name):
        super().__init__("the holding with this name is of another kind")
        self.name = name
        self.code = "WrongKind"


class InDraft(FreeError):
    """A draft is open."""

    def __init__(self):
        super().__init__("a draft is open")
        self.code = "InDraft"


class NoDraft(FreeError):
    """No draft is open."""

    def __init__(self):
        super().__init__("no draft is open")
        self.code = "NoDraft"


class Missing(LookupError):
    """Something that is asked for is not there."""


class UnknownName(Missing):
    """There is no holding with this name."""

    def __init__(self, name):
        super().__init__("there is no holding with this name")
        self.name = name
        self.code = "UnknownName"


class UnknownPoint(Missing):
    """This point is not heard."""

    def __init__(self, point):
        super().__init__("this point is not heard")
        self.point = point
        self.code = "UnknownPoint"


class UnknownKept(Missing):
    """There is no kept paper with this number."""

    def __init__(self, at):
        super().__init__("there is no kept paper with this number")
        self.at = at
        self.code = "UnknownKept"


class ZeroForm(ArithmeticError):
    """A form is the zero form where it must not be."""

    def __init__(self):
        super().__init__("a form is the zero form where it must not be")
        self.code = "ZeroForm"


class NothingLeft(IndexError):
    """There is nothing left to take back or to do again."""

    def __init__(self):
        super().__init__("there is nothing left to take back or to do again")
        self.code = "NothingLeft"
