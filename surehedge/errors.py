"""The errors that the program raises."""


class HedgeError(ValueError):
    """The base class of all errors that the program raises."""


class BadSize(HedgeError):
    """There are too few or too many of something."""


class BadName(HedgeError):
    """A name is not a name, or stood before."""


class BadParent(HedgeError):
    """The parent of a node is not a place that it can be."""


class BadNumber(HedgeError):
    """A number is not one that may stand there."""


class BadGrowth(HedgeError):
    """The growth of a node is not greater than 0."""


class BadRule(HedgeError):
    """A rule is none of the four."""


class BadClause(HedgeError):
    """A clause has another word or another number of elements than clauses have."""


class BadCondition(HedgeError):
    """A condition has another word or another number of elements than conditions have."""


class BadAmount(HedgeError):
    """An amount has another word or another number of elements than amounts have."""


class BadSign(HedgeError):
    """A sign is not one of those that may stand there."""


class BadSide(HedgeError):
    """A side of a contract is not one of the two."""


class UnknownName(HedgeError):
    """A contract uses a name that nothing has."""


class TooDeep(HedgeError):
    """A part of a contract stands within too many others."""


class BadState(HedgeError):
    """A state is not one of the book."""


class TooManyChoices(HedgeError):
    """A way through a game has too many choices."""


class TooManyNames(HedgeError):
    """Too many names of a contract would be in force."""


class TooManyPairs(HedgeError):
    """Too many pairs are reached."""


class HasChoices(HedgeError):
    """A contract has choices where it must have none."""


class MoreMoves(HedgeError):
    """More moves are needed than there are."""


class FewerMoves(HedgeError):
    """Fewer moves are needed than there are."""


class BadText(HedgeError):
    """A text is not a written form; tells the place of its first fault."""

    def __init__(self, line, column):
        self.line = line
        self.column = column


class NotFree(HedgeError):
    """A market is not free; tells the first node that is not."""

    def __init__(self, node):
        self.node = node


class NoWeights(HedgeError):
    """A node has no weights."""

    def __init__(self, node):
        self.node = node


class BadStep(HedgeError):
    """A step of a play is wrong; tells its place in the play."""

    def __init__(self, place):
        self.place = place


class NotFreeTogether(HedgeError):
    """A market and quotes are not free together."""


class Negative(HedgeError):
    """A wealth is less than 0."""


class NotOpen(HedgeError):
    """A desk is settled where it must be open."""


class NotSettled(HedgeError):
    """A desk is open where it must be settled."""


class NotEnough(HedgeError):
    """The wealth would be less than the capital."""


class BadMove(HedgeError):
    """A move is neither 0 nor 1."""


class NotAChild(HedgeError):
    """A place is not that of a child of the node."""


class BreaksRules(HedgeError):
    """Holdings do not keep the rules of the node."""


class NothingToUndo(HedgeError):
    """No deed is in force."""


class NothingToRedo(HedgeError):
    """No deed is undone."""


class BadEntry(HedgeError):
    """A deed of a journal raises an error; tells the place of its entry."""

    def __init__(self, place):
        self.place = place
