"""Ledgers: how often each run of a routine was made."""

from runledger.checks import is_block, is_integer, is_times
from runledger.counts import summed_counts
from runledger.errors import BadEntry, NoRun, NotEnough, NotPassed, OtherRoutine
from runledger.flows import ways_onward
from runledger.walks import cut_at, jumps_of


def is_entry(value, routine):
    """Return whether the value, of any kind, is a tuple of a run of the routine and its times."""
    if not isinstance(value, tuple) or len(value) != 2:
        return False
    run, times = value
    return routine.is_run(run) and is_times(times)


def added_times(entries):
    """Return the times of the runs, ascending; those of equal runs are added, and runs with 0 times are left out."""
    added = {}
    for run, times in entries:
        added[run] = added.get(run, 0) + times
    return {run: added[run] for run in sorted(set(added)) if added[run] != 0}


def summed_ledger(routine, entries):
    """Return the Ledger with these times, added. Unlike those that are named they have no bound, and may be below 0."""
    made = Ledger(routine, [])
    made._times = added_times(entries)
    return made


class Ledger:
    """A ledger of a routine: runs, each with its times."""

    def __init__(self, routine, entries):
        for at, entry in enumerate(entries):
            if not is_entry(entry, routine):
                raise BadEntry(at)
        self.routine = routine
        self._times = added_times(entries)

    @property
    def entries(self):
        """The list of the tuples (run, times), the runs ascending and different."""
        return [(run, times) for run, times in self._times.items()]

    def __getitem__(self, run):
        if not self.routine.is_run(run):
            raise NoRun(run)
        return self._times.get(run, 0)

    def __iter__(self):
        raise TypeError("a ledger is asked run by run")

    def __len__(self):
        return len(self._times)

    def __add__(self, other):
        if not isinstance(other, Ledger):
            return NotImplemented
        if self.routine != other.routine:
            raise OtherRoutine()
        return summed_ledger(self.routine, [*self.entries, *other.entries])

    def __mul__(self, other):
        if not is_integer(other):
            return NotImplemented
        return summed_ledger(self.routine, [(run, times * other) for run, times in self.entries])

    def __rmul__(self, other):
        if not is_integer(other):
            return NotImplemented
        return self * other

    def __eq__(self, other):
        return isinstance(other, Ledger) and self.routine == other.routine and self._times == other._times

    def counts(self):
        """Return the Counts that the ledger fits."""
        numbers = {jump: 0 for jump in self.routine.jumps}
        for run, times in self._times.items():
            for jump in jumps_of(run):
                numbers[jump] = numbers[jump] + times
        return summed_counts(self.routine, numbers)

    def kept(self, part):
        """Return the number of the runs, each as often as it is there, that keep to the part."""
        if self.routine != part.routine:
            raise OtherRoutine()
        return sum([times for run, times in self._times.items() if part(run)])

    def exchanged(self, first, second, block, *, times=1):
        """Return the Ledger in which the two runs have exchanged their rests at the block, so many times."""
        for run in (first, second):
            if not self.routine.is_run(run):
                raise NoRun(run)
        if not is_block(block, self.routine.blocks) or block not in first or block not in second:
            raise NotPassed(block)
        for run in (first, second):
            if self[run] < times:
                raise NotEnough(run)
        (one, rest), (other, tail) = cut_at(first, block), cut_at(second, block)
        taken = [(first, -times), (second, -times)]
        put = [(one + tail, times), (other + rest, times)]
        return summed_ledger(self.routine, [*self.entries, *taken, *put])


def some_ledger(counts):
    """Return a Ledger that fits the counts, with few entries."""
    numbers = {jump: counts[jump] for jump in counts.routine.jumps}
    return summed_ledger(counts.routine, ways_onward([((0,), counts.total)], numbers, {}))
