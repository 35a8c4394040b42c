"""All classes of errors of the package; each one keeps what it is made with."""


class LabError(ValueError):
    """The one class above all errors of the package."""


class InvalidScenario(LabError):
    """What was passed is no scenario."""

    def __init__(self, given):
        self.given = given


class InvalidDistribution(LabError):
    """What was passed is no joint distribution of the scenario."""

    def __init__(self, given):
        self.given = given


class InvalidLot(LabError):
    """What was passed is no lot of observables, or none that lies where it has to."""

    def __init__(self, given):
        self.given = given


class InvalidNumber(LabError):
    """What was passed is no whole number of the kind asked for."""

    def __init__(self, given):
        self.given = given


class InvalidFraction(LabError):
    """What was passed is no fraction within the limits told."""

    def __init__(self, given):
        self.given = given


class InvalidReduction(LabError):
    """What was passed is no Graham reduction of the scenario."""

    def __init__(self, given):
        self.given = given


class InvalidObstruction(LabError):
    """What was passed is no obstruction of the scenario."""

    def __init__(self, given):
        self.given = given


class InvalidGame(LabError):
    """What was passed is no nonlocal game of the scenario."""

    def __init__(self, given):
        self.given = given


class InvalidInequality(LabError):
    """What was passed is no inequality of the scenario."""

    def __init__(self, given):
        self.given = given


class InvalidRelabelling(LabError):
    """What was passed is no relabelling of the scenario."""

    def __init__(self, given):
        self.given = given


class InvalidWiring(LabError):
    """What was passed is no wiring between the scenarios."""

    def __init__(self, given):
        self.given = given


class InvalidSection(LabError):
    """What was passed is no section of the kind asked for."""

    def __init__(self, given):
        self.given = given


class InvalidPauli(LabError):
    """What was passed is no Pauli operator of the kind asked for."""

    def __init__(self, given):
        self.given = given


class Unfit(LabError):
    """What was passed is right by itself, but does not fit this question."""

    def __init__(self, given):
        self.given = given


class TooMany(LabError):
    """There are more than this question is answered for; `given` tells how many."""

    def __init__(self, given):
        self.given = given


class InvalidRow(LabError):
    """What was passed is no row of chances."""

    def __init__(self, given):
        self.given = given


class InvalidLab(LabError):
    """What was passed is no lab."""

    def __init__(self, given):
        self.given = given


class InvalidTerm(LabError):
    """What was passed is no term, no kind, or no value of the kind told."""

    def __init__(self, given):
        self.given = given


class InvalidName(LabError):
    """What was passed is no name of the kind asked for."""

    def __init__(self, given):
        self.given = given


class InvalidPlan(LabError):
    """What was passed is no plan."""

    def __init__(self, given):
        self.given = given


class NotSettled(LabError):
    """The term of this name is not settled."""

    def __init__(self, given):
        self.given = given


class InUse(LabError):
    """A term of this name tells the thing."""

    def __init__(self, given):
        self.given = given


class NotADesk(LabError):
    """What was passed is no desk."""

    def __init__(self, given):
        self.given = given


class InvalidFamily(LabError):
    """A row of the family is wrong, or it is no tuple of rows at all."""

    def __init__(self, index):
        self.index = index


class InvalidWeights(LabError):
    """A row of the weights is wrong, or they are no tuple of rows at all."""

    def __init__(self, index):
        self.index = index


class InvalidSupport(LabError):
    """A row of the support is wrong, or it is no tuple of rows at all."""

    def __init__(self, index):
        self.index = index


class InvalidVectors(LabError):
    """A vector is wrong, or they are no tuple of vectors at all."""

    def __init__(self, index):
        self.index = index


class InvalidState(LabError):
    """An operator of the state is wrong, or it is no tuple of operators at all."""

    def __init__(self, index):
        self.index = index


class InvalidPaulis(LabError):
    """An operator is wrong, or they are no tuple of operators at all."""

    def __init__(self, index):
        self.index = index


class InvalidContexts(LabError):
    """A context is wrong, or they are no tuple of contexts at all."""

    def __init__(self, index):
        self.index = index


class InvalidLog(LabError):
    """A pair of the log is wrong, or it is no tuple of pairs at all."""

    def __init__(self, index):
        self.index = index


class InvalidRounds(LabError):
    """A round is wrong, or they are no tuple of rounds at all."""

    def __init__(self, index):
        self.index = index


class InvalidText(LabError):
    """The text breaks off its form at this line and place."""

    def __init__(self, line, place):
        self.line = line
        self.place = place


class TwiceNamed(LabError):
    """The text names at this place what was named ahead."""

    def __init__(self, line, place):
        self.line = line
        self.place = place


class UnknownName(LabError):
    """The text names at this place what was not told."""

    def __init__(self, line, place):
        self.line = line
        self.place = place


class NoContext(LabError):
    """The group at this place is no context."""

    def __init__(self, line, place):
        self.line = line
        self.place = place


class NoSection(LabError):
    """The word of outcomes at this place is no section."""

    def __init__(self, line, place):
        self.line = line
        self.place = place


class NoSum(LabError):
    """The numbers at this place have the wrong sum."""

    def __init__(self, line, place):
        self.line = line
        self.place = place


class NoShare(LabError):
    """The number at this place is no share."""

    def __init__(self, line, place):
        self.line = line
        self.place = place


class NotAgreed(LabError):
    """Two contexts of the family disagree about what they share."""


class NothingToUndo(LabError):
    """No change is left that could be undone."""
