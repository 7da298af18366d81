"""The errors of the package, each with what it was told."""


class HoldError(ValueError):
    """A value that is not what a parameter wants."""


class InvalidShape(HoldError):
    def __init__(self, value):
        self.value = value


class InvalidBody(HoldError):
    def __init__(self, value):
        self.value = value


class InvalidPath(HoldError):
    def __init__(self, value):
        self.value = value


class InvalidProgram(HoldError):
    def __init__(self, value):
        self.value = value


class InvalidProcedure(HoldError):
    def __init__(self, value):
        self.value = value


class InvalidThread(HoldError):
    def __init__(self, value):
        self.value = value


class InvalidPlace(HoldError):
    def __init__(self, value):
        self.value = value


class InvalidMove(HoldError):
    def __init__(self, value):
        self.value = value


class InvalidLock(HoldError):
    def __init__(self, value):
        self.value = value


class InvalidGoal(HoldError):
    def __init__(self, value):
        self.value = value


class InvalidRow(HoldError):
    def __init__(self, value):
        self.value = value


class InvalidWord(HoldError):
    def __init__(self, value):
        self.value = value


class InvalidWords(HoldError):
    def __init__(self, value):
        self.value = value


class InvalidState(HoldError):
    def __init__(self, value):
        self.value = value


class BadText(HoldError):
    def __init__(self, line):
        self.line = line


class InvalidBodies(HoldError):
    def __init__(self, value):
        self.value = value


class InvalidBroken(HoldError):
    def __init__(self, value):
        self.value = value


class InvalidCell(HoldError):
    def __init__(self, value):
        self.value = value


class InvalidCells(HoldError):
    def __init__(self, value):
        self.value = value


class InvalidClaim(HoldError):
    def __init__(self, value):
        self.value = value


class InvalidCommand(HoldError):
    def __init__(self, value):
        self.value = value


class InvalidDeeds(HoldError):
    def __init__(self, position):
        self.position = position


class InvalidDeep(HoldError):
    def __init__(self, value):
        self.value = value


class InvalidEvent(HoldError):
    def __init__(self, value):
        self.value = value


class InvalidKinds(HoldError):
    def __init__(self, value):
        self.value = value


class InvalidLeg(HoldError):
    def __init__(self, value):
        self.value = value


class InvalidLocks(HoldError):
    def __init__(self, value):
        self.value = value


class InvalidModes(HoldError):
    def __init__(self, value):
        self.value = value


class InvalidMost(HoldError):
    def __init__(self, value):
        self.value = value


class InvalidPaper(HoldError):
    def __init__(self, value):
        self.value = value


class InvalidPart(HoldError):
    def __init__(self, value):
        self.value = value


class InvalidPiece(HoldError):
    def __init__(self, value):
        self.value = value


class InvalidPlaces(HoldError):
    def __init__(self, value):
        self.value = value


class InvalidRace(HoldError):
    def __init__(self, value):
        self.value = value


class InvalidRun(HoldError):
    def __init__(self, position):
        self.position = position


class InvalidRuns(HoldError):
    def __init__(self, value):
        self.value = value


class InvalidSchedule(HoldError):
    def __init__(self, position):
        self.position = position


class InvalidSort(HoldError):
    def __init__(self, value):
        self.value = value


class InvalidTable(HoldError):
    def __init__(self, value):
        self.value = value


class InvalidThing(HoldError):
    def __init__(self, value):
        self.value = value


class InvalidThreads(HoldError):
    def __init__(self, value):
        self.value = value


class InvalidThrough(HoldError):
    def __init__(self, value):
        self.value = value


class InvalidTorn(HoldError):
    def __init__(self, value):
        self.value = value


class InvalidWraps(HoldError):
    def __init__(self, value):
        self.value = value


class UnreadText(HoldError):
    def __init__(self, position):
        self.position = position


class MissingError(LookupError):
    """Something that is looked for and isn't there."""


class NoSuchPath(MissingError):
    def __init__(self, path):
        self.path = path


class NoThrough(MissingError):
    """The tuple is no through of the thread for the row."""


class NoWord(MissingError):
    def __init__(self, word):
        self.word = word


class UnknownLabel(MissingError):
    def __init__(self, value):
        self.value = value


class UnknownName(MissingError):
    def __init__(self, value):
        self.value = value


class StateError(RuntimeError):
    """A call that can't be done as things are."""


class CommandFailed(StateError):
    def __init__(self, position):
        self.position = position


class LabelTaken(StateError):
    def __init__(self, label):
        self.label = label


class NameTaken(StateError):
    def __init__(self, name):
        self.name = name


class NoRepair(StateError):
    """No repair of at most so many wraps helps."""


class NotAgreeing(StateError):
    """The words of the runs don't agree."""


class NotHold(StateError):
    """The statement is no hold."""


class NotNested(StateError):
    """The statement is no hold whose body is just one hold."""


class NothingToRedo(StateError):
    """No deed was taken back last."""


class NothingToUndo(StateError):
    """No deed is left to take back."""


class TooDeep(StateError):
    """A statement would stand within six others."""


class LimitError(ArithmeticError):
    """A limit that would be passed."""


class TooMany(LimitError):
    def __init__(self, what, limit):
        self.what = what
        self.limit = limit
