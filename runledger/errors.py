"""The errors of the program. Each keeps what it was handed under the names of its arguments."""


class RunError(ValueError):
    """What every error of the program is."""


class BadBlocks(RunError):
    """This is no number of blocks that there can be."""


class BadJump(RunError):
    """At this place stands no jump, or one that is there earlier."""

    def __init__(self, at):
        self.at = at


class TooLarge(RunError):
    """There would be more than this bound allows."""

    def __init__(self, bound):
        self.bound = bound


class NoBlock(RunError):
    """This is no block of the routine."""

    def __init__(self, block):
        self.block = block


class NoJump(RunError):
    """This is no jump of the routine."""

    def __init__(self, jump):
        self.jump = jump


class NoRun(RunError):
    """This is no run of the routine."""

    def __init__(self, run):
        self.run = run


class NoItem(RunError):
    """This is neither a block nor a jump of the routine."""

    def __init__(self, item):
        self.item = item


class NotInner(RunError):
    """This is no inner block of the routine."""

    def __init__(self, block):
        self.block = block


class OtherRoutine(RunError):
    """Things of unequal routines were brought together."""


class BadCount(RunError):
    """At this place stands no jump with its count, or a jump that is there earlier."""

    def __init__(self, at):
        self.at = at


class Uneven(RunError):
    """At this inner block the counts of the jumps to it and from it have unlike sums."""

    def __init__(self, block):
        self.block = block


class BadNumber(RunError):
    """This is no number that may be set or entered."""


class BadEntry(RunError):
    """At this place stands no run with its times."""

    def __init__(self, at):
        self.at = at


class NotPassed(RunError):
    """This block is not passed by both runs."""

    def __init__(self, block):
        self.block = block


class NotEnough(RunError):
    """This run is in the ledger less often than it is needed."""

    def __init__(self, run):
        self.run = run


class NoCeiling(RunError):
    """This is no ceiling of the routine."""


class NoFloor(RunError):
    """This is no floor of the routine."""


class NotPossible(RunError):
    """The number is not one of those from the least to the greatest one."""

    def __init__(self, least, greatest):
        self.least = least
        self.greatest = greatest


class NotSeen(RunError):
    """This jump was seen more often than it is counted."""

    def __init__(self, jump):
        self.jump = jump


class OtherCounts(RunError):
    """This jump is not as often in the one ledger as in the other one."""

    def __init__(self, jump):
        self.jump = jump


class BadCover(RunError):
    """This is no cover of the routine."""


class BadIns(RunError):
    """A block is copied for some of the jumps to it, not for none and not for all."""


class NotTwins(RunError):
    """These are not two twins, the lesser one first."""


class BadProgram(RunError):
    """At this place stands no block of such a program."""

    def __init__(self, at):
        self.at = at


class NoMark(RunError):
    """There is no mark with this number."""

    def __init__(self, number):
        self.number = number


class BadText(RunError):
    """This line, counted from 1, is the first invalid one of the text."""

    def __init__(self, line):
        self.line = line
