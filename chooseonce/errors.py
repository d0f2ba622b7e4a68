"""All errors of the package: one family for each kind of thing that may be wrong."""


class ChooseError(ValueError):
    """The base of all errors of the package."""


class TextError(ChooseError):
    """What is wrong with a text."""


class BadText(TextError):
    """A line cannot go on with its word at this place."""

    def __init__(self, line, at):
        self.line = line
        self.at = at


class LookError(ChooseError):
    """What a look at a program finds."""


class TwiceNamed(LookError):
    """A name stands twice where it may stand once."""

    def __init__(self, name):
        self.name = name


class BadSign(LookError):
    """A word or letters have a character that is no sign."""

    def __init__(self, word):
        self.word = word


class NoName(LookError):
    """Nothing has this name where it is looked for."""

    def __init__(self, name):
        self.name = name


class BadMaker(LookError):
    """A maker stands with unlike kinds."""

    def __init__(self, maker):
        self.maker = maker


class BadRef(LookError):
    """A ref or a place does not fit the kinds of a maker."""

    def __init__(self, maker):
        self.maker = maker


class Missing(LookError):
    """A judge has no formula for a maker."""

    def __init__(self, judge, maker):
        self.judge = judge
        self.maker = maker


class BadAsk(LookError):
    """An ask is put together as none may be."""

    def __init__(self, name):
        self.name = name


class Ring(LookError):
    """Chains lead from these lots around to themselves."""

    def __init__(self, lots):
        self.lots = lots


class RunError(ChooseError):
    """Why a run is not done."""


class BadRows(RunError):
    """The rows, or one of them, are none of the program's."""

    def __init__(self, row):
        self.row = row


class Refused(RunError):
    """An ask has a fault, so it may not be chosen early."""

    def __init__(self, maker, place, fault):
        self.maker = maker
        self.place = place
        self.fault = fault


class TooLong(RunError):
    """A run takes more looks than are let."""

    def __init__(self, price):
        self.price = price


class BadPlan(RunError):
    """A plan has a lot that may not stand there."""

    def __init__(self, lot):
        self.lot = lot


class BadOrder(RunError):
    """An order is none by its plan."""

    def __init__(self, number, why):
        self.number = number
        self.why = why


class BadCode(RunError):
    """A code does not fit."""

    def __init__(self, number, why):
        self.number = number
        self.why = why


class TreeError(ChooseError):
    """What is wrong with a candidate, its number or a place."""


class BadCandidate(TreeError):
    """A tree is not a candidate."""

    def __init__(self, path, why):
        self.path = path
        self.why = why


class BadNumber(TreeError):
    """No candidate has this number."""

    def __init__(self, number):
        self.number = number


class BadPlace(TreeError):
    """An edit names a place that the rows do not have."""

    def __init__(self, row, at):
        self.row = row
        self.at = at
