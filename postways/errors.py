"""The errors of the package: each keeps the very argument that was wrong in its field `value`."""


class PostError(ValueError):
    """The base of all errors of the package."""

    def __init__(self):
        ValueError.__init__(self)


class InvalidRows(PostError):
    """The argument has to be rows."""

    def __init__(self, value=None):
        self.value = value


class InvalidRun(PostError):
    """The argument has to be a run."""

    def __init__(self, value=None):
        self.value = value


class InvalidLetter(PostError):
    """The argument has to be a letter, perhaps one of a run."""

    def __init__(self, value=None):
        self.value = value


class InvalidLetters(PostError):
    """The argument has to be a list of letters."""

    def __init__(self, value=None):
        self.value = value


class InvalidParty(PostError):
    """The argument has to be a party, perhaps one of a run."""

    def __init__(self, value=None):
        self.value = value


class InvalidNames(PostError):
    """The argument has to be a dictionary, or a list, of names that the point tells."""

    def __init__(self, value=None):
        self.value = value


class InvalidEvent(PostError):
    """The argument has to be an event, or a moment, of a run."""

    def __init__(self, value=None):
        self.value = value


class InvalidEvents(PostError):
    """The argument has to be a list of events of a run."""

    def __init__(self, value=None):
        self.value = value


class InvalidFront(PostError):
    """The argument has to be a front of a run."""

    def __init__(self, value=None):
        self.value = value


class InvalidLine(PostError):
    """The argument has to be a line."""

    def __init__(self, value=None):
        self.value = value


class InvalidNumber(PostError):
    """The argument has to be a number that its point tells."""

    def __init__(self, value=None):
        self.value = value


class InvalidKind(PostError):
    """The argument has to be a kind."""

    def __init__(self, value=None):
        self.value = value


class InvalidPlace(PostError):
    """The argument has to be a place in a line."""

    def __init__(self, value=None):
        self.value = value


class InvalidMake(PostError):
    """The argument has to be a number for a make."""

    def __init__(self, value=None):
        self.value = value


class InvalidLane(PostError):
    """The argument has to be a lane of a run."""

    def __init__(self, value=None):
        self.value = value


class InvalidSlots(PostError):
    """The argument has to be slots of a run."""

    def __init__(self, value=None):
        self.value = value


class InvalidLog(PostError):
    """The argument has to be a log."""

    def __init__(self, value=None):
        self.value = value


class InvalidRuns(PostError):
    """The argument has to be a list of runs."""

    def __init__(self, value=None):
        self.value = value


class InvalidPieces(PostError):
    """The argument has to be pieces of a plan."""

    def __init__(self, value=None):
        self.value = value


class InvalidWays(PostError):
    """The argument has to be ways between pieces."""

    def __init__(self, value=None):
        self.value = value


class InvalidPlan(PostError):
    """The argument has to be a plan."""

    def __init__(self, value=None):
        self.value = value


class InvalidWay(PostError):
    """The argument has to be a way of a plan."""

    def __init__(self, value=None):
        self.value = value


class InvalidDesk(PostError):
    """The argument has to be a desk."""

    def __init__(self, value=None):
        self.value = value


class InvalidRecord(PostError):
    """The argument has to be a record of commands."""

    def __init__(self, value=None):
        self.value = value


class InvalidScript(PostError):
    """The argument has to be a script."""

    def __init__(self, value=None):
        self.value = value


class InvalidText(PostError):
    """The argument has to be a text of some kind."""

    def __init__(self, value=None):
        self.value = value


class Lies(PostError):
    """The argument has to be a run in which nothing lies; it is a run, but a letter lies."""

    def __init__(self, value=None):
        self.value = value


class Refused(PostError):
    """The argument has to be what the point tells; it cannot be had as asked."""

    def __init__(self, value=None):
        self.value = value


class NothingToUndo(PostError):
    """There is nothing to take back."""


class NothingToRedo(PostError):
    """There is nothing to make again."""
