"""The errors that the package raises."""


class WrongError(ValueError):
    """What all errors of the package have above them."""


class BadBytes(WrongError):
    """A row of bytes is not what it must be."""

    def __init__(self, at):
        WrongError.__init__(self, "a row of bytes is not what it must be")
        self.at = at


class BadCell(WrongError):
    """No cell of the program."""


class BadChart(WrongError):
    """No closed chart."""


class BadCheck(WrongError):
    """No list of checks of the code."""


class BadChoices(WrongError):
    """No list of choices."""


class BadCode(WrongError):
    """A code is not what it must be."""

    def __init__(self, at):
        WrongError.__init__(self, "a code is not what it must be")
        self.at = at


class BadCondition(WrongError):
    """No condition of the program."""


class BadDeed(WrongError):
    """No deed."""


class BadDisk(WrongError):
    """No disk."""


class BadEdit(WrongError):
    """No edit of the program."""


class BadEntry(WrongError):
    """No entry of the ledger."""


class BadFilm(WrongError):
    """No film."""


class BadFlat(WrongError):
    """No flat machine."""


class BadInputs(WrongError):
    """No inputs that will do."""


class BadLayout(WrongError):
    """A layout is not what it must be."""

    def __init__(self, part):
        WrongError.__init__(self, "a layout is not what it must be")
        self.part = part


class BadLedger(WrongError):
    """No ledger."""


class BadLine(WrongError):
    """A line tells no deed that can be done."""

    def __init__(self, number):
        WrongError.__init__(self, "a line tells no deed that can be done")
        self.number = number


class BadLog(WrongError):
    """A log is not what it must be."""

    def __init__(self, at):
        WrongError.__init__(self, "a log is not what it must be")
        self.at = at


class BadLook(WrongError):
    """No look of the program."""


class BadMoment(WrongError):
    """A moment is not what it must be."""

    def __init__(self, part):
        WrongError.__init__(self, "a moment is not what it must be")
        self.part = part


class BadNames(WrongError):
    """A renaming is not what it must be."""

    def __init__(self, key):
        WrongError.__init__(self, "a renaming is not what it must be")
        self.key = key


class BadNumber(WrongError):
    """A number is not what it must be."""

    def __init__(self, part):
        WrongError.__init__(self, "a number is not what it must be")
        self.part = part


class BadPast(WrongError):
    """A past is not what it must be."""

    def __init__(self, part):
        WrongError.__init__(self, "a past is not what it must be")
        self.part = part


class BadPlan(WrongError):
    """No plan."""


class BadSession(WrongError):
    """No session."""


class BadSight(WrongError):
    """No sight of the program."""


class BadStep(WrongError):
    """No name of a step."""


class BadStop(WrongError):
    """No stop of the program."""


class BadStory(WrongError):
    """No story of the program."""


class BadTerm(WrongError):
    """No term."""


class BadText(WrongError):
    """A text is not that of a program."""

    def __init__(self, line, reason):
        WrongError.__init__(self, "a text is not that of a program")
        self.line = line
        self.reason = reason


class BadTraces(WrongError):
    """No traces of the weaving."""


class BadTree(WrongError):
    """A tree is not that of a program."""

    def __init__(self, at):
        WrongError.__init__(self, "a tree is not that of a program")
        self.at = at


class BadWeaving(WrongError):
    """No weaving."""


class Lost(WrongError):
    """A check that was left out would have told this wrong."""

    def __init__(self, word):
        WrongError.__init__(self, "a check that was left out would have told this wrong")
        self.word = word


class NotNow(WrongError):
    """This cannot be done now."""

    def __init__(self, why):
        WrongError.__init__(self, "this cannot be done now")
        self.why = why


class OldPen(WrongError):
    """Another pen was taken later."""


class TooMany(WrongError):
    """More than can be told."""

    def __init__(self, most):
        WrongError.__init__(self, "more than can be told")
        self.most = most
