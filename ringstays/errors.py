"""The errors of the package, as point [9] tells of them.

One blank line stands between them, so that the whole list fits into one file.
"""

class InlineError(ValueError):
    """What all errors of the package are."""

class InvalidCalls(InlineError):
    def __init__(self, given):
        self.given = given

class InvalidFunction(InlineError):
    def __init__(self, given):
        self.given = given

class InvalidPath(InlineError):
    def __init__(self, given):
        self.given = given

class InvalidNames(InlineError):
    def __init__(self, given):
        self.given = given

class InvalidCount(InlineError):
    def __init__(self, given):
        self.given = given

class InvalidOrder(InlineError):
    def __init__(self, given):
        self.given = given

class InvalidInlined(InlineError):
    def __init__(self, given):
        self.given = given

class InvalidText(InlineError):
    def __init__(self, given):
        self.given = given

class InvalidLog(InlineError):
    def __init__(self, given):
        self.given = given

class InvalidPass(InlineError):
    def __init__(self, given):
        self.given = given

class InvalidPasses(InlineError):
    def __init__(self, given):
        self.given = given

class InvalidGroup(InlineError):
    def __init__(self, given):
        self.given = given

class InvalidVisits(InlineError):
    def __init__(self, given):
        self.given = given

class InvalidIndex(InlineError):
    def __init__(self, given):
        self.given = given

class InvalidMost(InlineError):
    def __init__(self, given):
        self.given = given

class InvalidCycle(InlineError):
    def __init__(self, given):
        self.given = given

class InvalidComponent(InlineError):
    def __init__(self, given):
        self.given = given

class InvalidVersions(InlineError):
    def __init__(self, given):
        self.given = given

class InvalidNow(InlineError):
    def __init__(self, given):
        self.given = given

class InvalidStep(InlineError):
    def __init__(self, given):
        self.given = given

class InvalidDeeds(InlineError):
    def __init__(self, given):
        self.given = given

class InvalidParts(InlineError):
    def __init__(self, given):
        self.given = given

class InvalidIndexes(InlineError):
    def __init__(self, given):
        self.given = given

class InvalidEdit(InlineError):
    def __init__(self, given):
        self.given = given

class InvalidTargets(InlineError):
    def __init__(self, given):
        self.given = given

class InvalidWants(InlineError):
    def __init__(self, given):
        self.given = given

class InvalidTurns(InlineError):
    def __init__(self, given):
        self.given = given

class InvalidWheel(InlineError):
    def __init__(self, given):
        self.given = given

class InvalidWheelLog(InlineError):
    def __init__(self, given):
        self.given = given

class InvalidInlinedCount(InlineError):
    def __init__(self, given):
        self.given = given

class InvalidStaying(InlineError):
    def __init__(self, given):
        self.given = given

class InvalidLimits(InlineError):
    def __init__(self, given):
        self.given = given

class InvalidSum(InlineError):
    def __init__(self, given):
        self.given = given

class InvalidCells(InlineError):
    def __init__(self, given):
        self.given = given

class InvalidWorths(InlineError):
    def __init__(self, given):
        self.given = given

class InvalidPosition(InlineError):
    def __init__(self, given):
        self.given = given

class InvalidMode(InlineError):
    def __init__(self, given):
        self.given = given

class TooMany(InlineError):
    def __init__(self, count):
        self.count = count

class NoCall(InlineError):
    def __init__(self, at):
        self.at = at

class NotInlined(InlineError):
    def __init__(self, path):
        self.path = path

class NotOpen(InlineError):
    def __init__(self, path):
        self.path = path

class SelfCall(InlineError):
    def __init__(self, function):
        self.function = function

class NotPresent(InlineError):
    def __init__(self, part):
        self.part = part

class NotOriginal(InlineError):
    def __init__(self, part):
        self.part = part

class Stopped(InlineError):
    def __init__(self, at, reached):
        self.at = at
        self.reached = reached

class NotInlinedAt(InlineError):
    def __init__(self, path):
        self.path = path

class Unrolling(InlineError):
    def __init__(self, at):
        self.at = at

class UnequalLists(InlineError):
    def __init__(self, function, path):
        self.function = function
        self.path = path

class UnequalRows(InlineError):
    def __init__(self, function, at):
        self.function = function
        self.at = at

class NotComplete(InlineError):
    def __init__(self, function):
        self.function = function

class NoChange(InlineError):
    def __init__(self, function):
        self.function = function

class OriginalBody(InlineError):
    def __init__(self, function):
        self.function = function

class NoRow(InlineError):
    def __init__(self, function):
        self.function = function

class NotACopy(InlineError):
    def __init__(self, function, at):
        self.function = function
        self.at = at

class NoOrder(InlineError):
    def __init__(self, cycle):
        self.cycle = cycle

class SmallCount(InlineError):
    def __init__(self, count):
        self.count = count

class Unreachable(InlineError):
    def __init__(self, witness):
        self.witness = witness

class StuckAt(InlineError):
    def __init__(self, stuck):
        self.stuck = stuck

class LastVersion(InlineError):
    def __init__(self, function):
        self.function = function

class StillInlined(InlineError):
    def __init__(self, call):
        self.call = call

class NotUndoable(InlineError):
    def __init__(self, step):
        self.step = step

class OtherProgram(InlineError):
    def __init__(self, other):
        self.other = other

class NotBlocks(InlineError):
    def __init__(self, function, path):
        self.function = function
        self.path = path

class NoJoin(InlineError):
    def __init__(self, defect):
        self.defect = defect

class BlockedTarget(InlineError):
    def __init__(self, path):
        self.path = path

class UnmetWants(InlineError):
    def __init__(self, defect):
        self.defect = defect

class NotFromBelow(InlineError):
    def __init__(self, defect):
        self.defect = defect

class NotTwo(InlineError):
    def __init__(self, count):
        self.count = count

class UnreachableWheel(InlineError):
    def __init__(self, cycles):
        self.cycles = cycles

class StoppedWheel(InlineError):
    def __init__(self, at):
        self.at = at

class BadSource(InlineError):
    def __init__(self, at):
        self.at = at

class TooManyCalls(InlineError):
    def __init__(self, function):
        self.function = function

class TooDeep(InlineError):
    pass

class BadLine(InlineError):
    def __init__(self, at):
        self.at = at

class TooNested(InlineError):
    def __init__(self, function):
        self.function = function

class LongName(InlineError):
    def __init__(self, name):
        self.name = name

class HasFoldings(InlineError):
    def __init__(self, at):
        self.at = at

class NothingToUndo(InlineError):
    pass

class NothingToRedo(InlineError):
    pass
