"""The numbers between the least and the greatest one, and what is known when some runs have been seen."""

from runledger.bounds import arcs_of_beginnings, greatest, least
from runledger.counts import summed_counts
from runledger.errors import NotPossible, NotSeen, OtherRoutine
from runledger.flows import greatest_flow, ways_onward
from runledger.ledgers import summed_ledger


def beginnings_with(counts, part, number):
    """Return how often each jump is made by so many runs that keep to the part, and by the beginnings of all others.

    A beginning ends with the first jump that is outside of the part.
    """
    aside = counts.routine.blocks
    kept = (aside - 1, aside + 1, number)
    leaving = (aside, aside + 1, counts.total - number)
    amounts, _ = greatest_flow(aside + 2, [*arcs_of_beginnings(counts, part), kept, leaving])
    return {jump: amounts[at] for at, jump in enumerate(counts.routine.jumps)}


def ledger_with(counts, part, number):
    """Return a Ledger that fits the counts and in which the part has the number."""
    lowest, highest = least(counts, part)[0], greatest(counts, part)[0]
    if number < lowest or number > highest:
        raise NotPossible(lowest, highest)
    used = beginnings_with(counts, part, number)
    rest = {jump: counts[jump] - used[jump] for jump in used}
    outside = {jump: True for jump in used if jump not in part}
    begun = ways_onward([((0,), counts.total)], used, outside)
    return summed_ledger(counts.routine, ways_onward(begun, rest, {}))


def unseen_counts(counts, seen):
    """Return the Counts that are left when the seen ledger is taken out."""
    made = seen.counts()
    for jump in counts.routine.jumps:
        if made[jump] > counts[jump]:
            raise NotSeen(jump)
    return summed_counts(counts.routine, {jump: counts[jump] - made[jump] for jump in counts.routine.jumps})


def known_numbers(counts, seen, part):
    """Return the least and the greatest number of the part in the ledgers that fit and have the seen runs."""
    if counts.routine != seen.routine or counts.routine != part.routine:
        raise OtherRoutine()
    unseen, kept = unseen_counts(counts, seen), seen.kept(part)
    return (kept + least(unseen, part)[0], kept + greatest(unseen, part)[0])


def ledger_with_seen(counts, seen, part, number):
    """Return a Ledger that fits the counts, has the seen runs, and in which the part has the number."""
    lowest, highest = known_numbers(counts, seen, part)
    if number < lowest or number > highest:
        raise NotPossible(lowest, highest)
    return seen + ledger_with(unseen_counts(counts, seen), part, number - seen.kept(part))
