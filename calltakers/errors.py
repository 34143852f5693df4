"""The errors of the package: one class for each kind of failure."""


class TakerError(ValueError):
    """What all errors of the package stand under."""


class BadValue(TakerError):
    """Something is no value, or an argument has a name that is none."""


class BadCall(TakerError):
    """Something is no path, no name or no call; path holds it."""

    def __init__(self, path):
        TakerError.__init__(self, "no path, no name or no call")
        self.path = path


class BadPattern(TakerError):
    """Something is no pattern, or makes none."""


class BadExpectation(TakerError):
    """The arguments make no expectation."""


class BadPlan(TakerError):
    """The expectations make no plan; index is the place of the first that is wrong."""

    def __init__(self, index):
        TakerError.__init__(self, "no plan can be made of this")
        self.index = index


class NoName(TakerError):
    """The plan has no expectation of this name."""

    def __init__(self, name):
        TakerError.__init__(self, "the plan has no expectation of this name")
        self.name = name


class BadRecord(TakerError):
    """Something is no record; index is the place of the first item that is no call."""

    def __init__(self, index):
        TakerError.__init__(self, "an item of the record is no call")
        self.index = index


class NotFree(TakerError):
    """The plan has orders between expectations, or leasts, that are not allowed here."""


class NotKept(TakerError):
    """The record has no assignment."""


class NoIndex(TakerError):
    """Something is not the index of a call."""


class Conflicted(TakerError):
    """The plan has a conflict."""


class NoConflict(TakerError):
    """The plan has no conflict."""


class BadMove(TakerError):
    """The waiting call cannot be given to this name."""

    def __init__(self, name):
        TakerError.__init__(self, "the call cannot be given to this")
        self.name = name


class NotWon(TakerError):
    """The opponent has not won yet."""


class NoState(TakerError):
    """Something is no state of the plan."""


class Lost(TakerError):
    """No continuation of the calls can be kept."""


class BadHands(TakerError):
    """The hands and links have no order."""


class NoOrder(TakerError):
    """Something is no order of the hands."""


class BadResult(TakerError):
    """Something is no result of a rule; index is its place."""

    def __init__(self, index):
        TakerError.__init__(self, "a result of the rule is none")
        self.index = index


class BadRule(TakerError):
    """Something is no rule; index is its place."""

    def __init__(self, index):
        TakerError.__init__(self, "a rule of the list is none")
        self.index = index


class Faulted(TakerError):
    """A stand-in answers a call with a fault, as its rule says."""

    def __init__(self, word):
        TakerError.__init__(self, "the rule for this call raises a fault")
        self.word = word


class Unexpected(TakerError):
    """A strict stand-in was called after which nothing can be kept; what is the call."""

    def __init__(self, what):
        TakerError.__init__(self, "no continuation can be kept behind this call")
        self.what = what


class Undecided(TakerError):
    """Several answers are left for a call; could names those that could take it."""

    def __init__(self, could):
        TakerError.__init__(self, "several answers are left for this call")
        self.could = could


class NotAllowed(TakerError):
    """Strict stand-ins do not use rules."""


class Missing(TakerError):
    """The calls are not kept at the end; lacking is a list of calls that can follow."""

    def __init__(self, lacking):
        TakerError.__init__(self, "calls are missing at the end")
        self.lacking = lacking


class NoPlace(TakerError):
    """Nothing is at the place of this name."""

    def __init__(self, name):
        TakerError.__init__(self, "nothing is at this place")
        self.name = name


class BadName(TakerError):
    """Something is no name, or a name that stands already."""

    def __init__(self, name):
        TakerError.__init__(self, "no name, or a name that stands already")
        self.name = name


class BadCount(TakerError):
    """More than one value was passed for a replacement."""


class BadOrder(TakerError):
    """A replacement begins twice, ends without a begin, or does not belong here."""


class BadText(TakerError):
    """Something is no such text; row is the place of the first row that is none."""

    def __init__(self, row):
        TakerError.__init__(self, "the text does not read")
        self.row = row
