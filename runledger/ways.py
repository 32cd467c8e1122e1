"""From one ledger to another one with the same counts, block by block."""

from runledger.checks import is_inner
from runledger.errors import NotInner, OtherCounts, OtherRoutine
from runledger.flows import least_of
from runledger.ledgers import added_times, summed_ledger
from runledger.walks import cut_at


def what_stays(ledger, block):
    """Return what a recoupling at the block leaves as it is: runs past it, beginnings up to it and rests from it."""
    past = [(run, times) for run, times in ledger.entries if block not in run]
    cuts = [(cut_at(run, block), times) for run, times in ledger.entries if block in run]
    begun = [(beginning, times) for (beginning, _), times in cuts]
    rests = [(rest, times) for (_, rest), times in cuts]
    return [added_times(past), added_times(begun), added_times(rests)]


def is_recoupled(first, second, block):
    """Return whether the second ledger is the first one recoupled at the block."""
    if not is_inner(block, first.routine.blocks):
        raise NotInner(block)
    return first.routine == second.routine and what_stays(first, block) == what_stays(second, block)


def cut_behind(run, block):
    """Return the beginning of the run with the blocks up to this number, and its rest with those above it."""
    at = len([passed for passed in run if passed <= block])
    return (run[:at], run[at:])


def cuts_by_jump(ledger, block):
    """Return the runs cut behind the block, as (beginning, rest, times), by the jumps that lead over the cut."""
    found = {}
    for run, times in ledger.entries:
        beginning, rest = cut_behind(run, block)
        found.setdefault((beginning[-1], rest[0]), []).append((beginning, rest, times))
    return found


def coupled(begun, rests):
    """Return the entries (run, times) that the beginnings and the rests give, the first ones with the first ones.

    Both are lists (path, times) with the same sum. Each entry uses up its beginning or its rest.
    """
    runs = []
    waiting = list(added_times(rests).items())[::-1]
    for beginning, times in added_times(begun).items():
        needed = times
        while needed > 0:
            rest, left = waiting.pop()
            amount = least_of([needed, left])
            runs.append((beginning + rest, amount))
            needed = needed - amount
            if left > amount:
                waiting.append((rest, left - amount))
    return runs


def between_both(first, second, block):
    """Return the Ledger with the second one's beginnings up to the block and the first one's rests above it.

    With the next block only the beginnings that pass it and the rests from it are coupled anew: those that
    other jumps join are the same as before.
    """
    given, wanted = cuts_by_jump(first, block), cuts_by_jump(second, block)
    entries = []
    for jump in wanted:
        begun = [(beginning, times) for beginning, _, times in wanted[jump]]
        rests = [(rest, times) for _, rest, times in given[jump]]
        entries.extend(coupled(begun, rests))
    return summed_ledger(first.routine, entries)


def way(first, second):
    """Return the list of ledgers that leads from the first one to the second one, recoupled block by block."""
    if first.routine != second.routine:
        raise OtherRoutine()
    one, other = first.counts(), second.counts()
    for jump in first.routine.jumps:
        if one[jump] != other[jump]:
            raise OtherCounts(jump)
    return [between_both(first, second, block) for block in range(first.routine.blocks - 1)]
