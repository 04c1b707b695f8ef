"""All errors of the package, each one a direct heir of PactError."""


class PactError(ValueError):
    """What is common to all errors of this package."""


class InvalidNumber(PactError):
    """A value that is no number, or none that is asked for."""

    def __init__(self, given):
        self.given = given


class InvalidLots(PactError):
    """A value that is no list of lots."""

    def __init__(self, given):
        self.given = given


class InvalidLot(PactError):
    """A value that is no lot."""

    def __init__(self, given):
        self.given = given


class InvalidPayoff(PactError):
    """A value that is no payoff."""

    def __init__(self, given):
        self.given = given


class InvalidBlend(PactError):
    """A value that is no list of weights."""

    def __init__(self, given):
        self.given = given


class InvalidNames(PactError):
    """A value that is no list of names with their sizes, or no space."""

    def __init__(self, given):
        self.given = given


class InvalidStore(PactError):
    """A value that is no store."""

    def __init__(self, given):
        self.given = given


class InvalidValues(PactError):
    """A value that gives names no values."""

    def __init__(self, given):
        self.given = given


class InvalidName(PactError):
    """A value that is no name of the space."""

    def __init__(self, given):
        self.given = given


class InvalidParty(PactError):
    """A value that is no number of parties."""

    def __init__(self, given):
        self.given = given


class InvalidSide(PactError):
    """A value that is no side of the parties."""

    def __init__(self, given):
        self.given = given


class InvalidText(PactError):
    """A value that is no string."""

    def __init__(self, given):
        self.given = given


class InvalidSystem(PactError):
    """A value that is no system."""

    def __init__(self, given):
        self.given = given


class InvalidUnit(PactError):
    """A value that is not the name of a unit."""

    def __init__(self, given):
        self.given = given


class InvalidBody(PactError):
    """A value that is no body there."""

    def __init__(self, given):
        self.given = given


class InvalidSteps(PactError):
    """A value that is no number of steps."""

    def __init__(self, given):
        self.given = given


class InvalidAnswer(PactError):
    """A value that is no answer to what is asked."""

    def __init__(self, given):
        self.given = given


class InvalidPart(PactError):
    """A value that is no part of the wheel."""

    def __init__(self, given):
        self.given = given


class InvalidView(PactError):
    """A value that is no view."""

    def __init__(self, given):
        self.given = given


class InvalidFamilies(PactError):
    """A value that tells no families."""

    def __init__(self, given):
        self.given = given


class InvalidRow(PactError):
    """A value that is no row or place there."""

    def __init__(self, given):
        self.given = given


class InvalidPlan(PactError):
    """A value that is no plan."""

    def __init__(self, given):
        self.given = given


class InvalidOutcomes(PactError):
    """A value that is no set of outcomes."""

    def __init__(self, given):
        self.given = given


class InvalidPath(PactError):
    """A value that is no path of such a statement."""

    def __init__(self, given):
        self.given = given


class InvalidCode(PactError):
    """A value that is no code."""

    def __init__(self, given):
        self.given = given


class InvalidLines(PactError):
    """A value that is no list of such lines."""

    def __init__(self, given):
        self.given = given


class InvalidEdition(PactError):
    """A value that is not the number of such an edition."""

    def __init__(self, given):
        self.given = given


class InvalidPromised(PactError):
    """A value that is no list of promised sides."""

    def __init__(self, given):
        self.given = given


class InvalidPrice(PactError):
    """A value that is no price."""

    def __init__(self, given):
        self.given = given


class InvalidPurse(PactError):
    """A value that is no list of purses."""

    def __init__(self, given):
        self.given = given


class InvalidSession(PactError):
    """A value that is not the number of a session."""

    def __init__(self, given):
        self.given = given


class InvalidRecord(PactError):
    """A value that is no record of the system."""

    def __init__(self, given):
        self.given = given


class ByZero(PactError):
    """A division by a number that equals 0."""


class NoSystem(PactError):
    """A string that is no text of a system, with the place from which on it is none."""

    def __init__(self, line, column):
        self.line = line
        self.column = column


class NotFair(PactError):
    """A system that is not fair, with the first thing that is wrong in it."""

    def __init__(self, reason, unit, word):
        self.reason = reason
        self.unit = unit
        self.word = word


class Outside(PactError):
    """A lot that is no mixture, with a payoff that parts it from the lots."""

    def __init__(self, payoff):
        self.payoff = payoff


class Apart(PactError):
    """Lots without a common mixture, with a payoff that parts them."""

    def __init__(self, payoff):
        self.payoff = payoff


class TooMany(PactError):
    """More than a bound lets by, with their number."""

    def __init__(self, count):
        self.count = count


class TooRich(PactError):
    """A family with too many sets, or a set with too many lots."""

    def __init__(self, unit, store, side, count):
        self.unit = unit
        self.store = store
        self.side = side
        self.count = count


class TooGreat(PactError):
    """A lot with too great an integer."""

    def __init__(self, unit, store):
        self.unit = unit
        self.store = store


class NotLet(PactError):
    """A body or a move that is not let by for a side, with an attack."""

    def __init__(self, side, store, plan, payoff, answer):
        self.side = side
        self.store = store
        self.plan = plan
        self.payoff = payoff
        self.answer = answer


class TooDear(PactError):
    """A body with a harm above the price."""

    def __init__(self, side, store, harm):
        self.side = side
        self.store = store
        self.harm = harm


class NotAsked(PactError):
    """A step or a move that is not asked for."""


class NoThing(PactError):
    """A name under which there is nothing."""

    def __init__(self, name):
        self.name = name


class NothingToUndo(PactError):
    """There is nothing that could be undone."""
