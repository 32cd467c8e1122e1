"""Parts: sets of jumps of a routine, and the runs that keep to them."""

from runledger.checks import is_block
from runledger.errors import NoItem, NoJump, NoRun, OtherRoutine
from runledger.walks import jumps_of, jumps_on_runs, number_of_runs, run_with, runs_along


def leads_past(jump, item):
    """Return whether the jump goes over the item, so that no run has both."""
    u, v = jump
    if isinstance(item, int):
        return u < item < v
    # Two different jumps of one run have no stretch of blocks in common.
    return jump != item and u < item[1] and item[0] < v


def has_item(jump, item):
    """Return whether the item is the jump or one of its blocks, so that each run by the jump has it."""
    return item in jump if isinstance(item, int) else item == jump


def suits(jump, items, barred):
    """Return whether the jump goes over none of the items and has none of the barred ones."""
    if any([leads_past(jump, item) for item in items]):
        return False
    return not any([has_item(jump, item) for item in barred])


class Part:
    """A part: a set of jumps of a routine."""

    def __init__(self, routine, jumps):
        chosen = {}
        for jump in jumps:
            if jump not in routine:
                raise NoJump(jump)
            chosen[jump] = True
        self.routine = routine
        self._chosen = chosen
        self._jumps = sorted(set(chosen))
        self._reduced = jumps_on_runs(routine.blocks, self._jumps)

    @property
    def jumps(self):
        """The ascending list of the jumps."""
        return list(self._jumps)

    def __call__(self, run):
        """Return whether the run keeps to the part."""
        if not self.routine.is_run(run):
            raise NoRun(run)
        return all([jump in self._chosen for jump in jumps_of(run)])

    def __contains__(self, jump):
        return jump in self.routine and jump in self._chosen

    def __bool__(self):
        return bool(self._reduced)

    def __and__(self, other):
        if self.routine != other.routine:
            raise OtherRoutine()
        return Part(self.routine, [jump for jump in self._jumps if jump in other])

    def __or__(self, other):
        if self.routine != other.routine:
            raise OtherRoutine()
        return Part(self.routine, [*self._jumps, *other._jumps])

    def __le__(self, other):
        return self.routine == other.routine and all([jump in other for jump in self._reduced])

    def __eq__(self, other):
        return isinstance(other, Part) and self.routine == other.routine and self._reduced == other._reduced

    @staticmethod
    def through(routine, items, *, barred=()):
        """Return the part of the jumps on runs that have all the items and none of the barred ones."""
        for item in [*items, *barred]:
            if not is_block(item, routine.blocks) and item not in routine:
                raise NoItem(item)
        # Runs lead from the first block to the last one: those that go over no item have them all.
        kept = [jump for jump in routine.jumps if suits(jump, items, barred)]
        return Part(routine, jumps_on_runs(routine.blocks, kept))

    def reduced(self):
        """Return the part of those jumps that lie on a run that keeps to this part."""
        return Part(self.routine, self._reduced)

    def how_many(self):
        """Return the number of runs that keep to the part."""
        return number_of_runs(self.routine.blocks, self._jumps)

    def kept_runs(self):
        """Yield the runs that keep to the part, ascending, one by one."""
        yield from runs_along(self.routine.blocks, self._jumps)

    def kept_run_by(self, jump):
        """Return a run that keeps to the part and makes the jump, or None."""
        if jump not in self.routine:
            raise NoJump(jump)
        if jump not in self._reduced:
            return None
        return run_with(self.routine.blocks, self._reduced, jump)

    def not_in(self, other):
        """Return a run that keeps to this part and leaves the other one, or None."""
        if self.routine != other.routine:
            raise OtherRoutine()
        for jump in self._reduced:
            if jump not in other:
                return run_with(self.routine.blocks, self._reduced, jump)
        return None


def open_block(first, second, known):
    """Return the first block at which the first run, going on as the second one, is not known, or None."""
    for at, block in enumerate(first):
        if block in second:
            rest = second[second.index(block) + 1:]
            if first[:at + 1] + rest not in known:
                return block
    return None


def closed(routine, runs):
    """Return the part of which these are all runs, or two runs and a block that show that there is none."""
    for run in runs:
        if not routine.is_run(run):
            raise NoRun(run)
    known = {run: True for run in runs}
    for first in known:
        for second in known:
            block = open_block(first, second, known)
            if block is not None:
                return ("open", first, second, block)
    return ("part", Part(routine, [jump for run in known for jump in jumps_of(run)]))
