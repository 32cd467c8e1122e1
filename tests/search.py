"""Ledgers, counts and numbers of parts, found slowly by going through everything there is."""

from itertools import combinations_with_replacement

from runledger.counts import Counts, Tally
from runledger.ledgers import some_ledger
from tests import webs


def jump_counts(entries):
    """How often each jump is made in a list of (run, times)."""
    counted = {}
    for run, times in entries:
        for jump in webs.pairs_of(run):
            counted[jump] = counted.get(jump, 0) + times
    return counted


def few_runs(web, most):
    """All lists of (run, times), the runs ascending, with at most so many runs in all."""
    runs = webs.slow_runs(web.blocks, web.jumps)
    for size in range(most + 1):
        for chosen in combinations_with_replacement(runs, size):
            yield [(run, chosen.count(run)) for run in runs if run in chosen]


def few_counts(web, most):
    """All different Counts of at most so many runs."""
    told = []
    for entries in few_runs(web, most):
        pairs = sorted(jump_counts(entries).items())
        if pairs not in told:
            told.append(pairs)
    return [Counts(web, pairs) for pairs in told]


def made_otherwise(counts):
    """Equal Counts, as a tally, a sum and a ledger tell them."""
    tally = Tally(counts.routine)
    for jump, often in counts.pairs[::-1]:
        tally[jump] = often
    return [tally.counts(), counts + 0 * counts, some_ledger(counts).counts()]


def fitting(counts):
    """All lists of (run, times) that fit the counts: each run is tried each number of times that there can be."""
    web = counts.routine
    left = dict(counts.pairs)

    def tried(runs):
        if not runs:
            if not any(left.values()):
                yield []
            return
        jumps = webs.pairs_of(runs[0])
        for times in range(min(left[jump] for jump in jumps) + 1):
            for jump in jumps:
                left[jump] -= times
            for rest in list(tried(runs[1:])):
                yield [(runs[0], times), *rest] if times else rest
            for jump in jumps:
                left[jump] += times

    yield from tried(webs.slow_runs(web.blocks, list(left)))


def kept(entries, jumps):
    """The number of the runs, each as often as it is there, all of whose jumps are among these."""
    return sum(times for run, times in entries if all(jump in jumps for jump in webs.pairs_of(run)))


def contains(entries, seen):
    """Whether each seen run is there at least as often as it was seen."""
    times = dict(entries)
    return all(times.get(run, 0) >= often for run, often in seen)


def lists_of_blocks(web):
    """All ascending lists of different blocks."""
    return list(webs.subsets(range(web.blocks)))


def slow_ceiling_weight(counts, jumps, blocks):
    return sum(often for (u, v), often in counts.pairs if (u, v) in jumps and u in blocks and v not in blocks)


def slow_floor_weight(counts, jumps, blocks):
    inside = sum(often for (u, v), often in counts.pairs if (u, v) in jumps and u in blocks and v not in blocks)
    return inside + sum(often for (u, v), often in counts.pairs if (u, v) not in jumps and u in blocks)


def most_entries(counts):
    """J - B + 2 of point 10, or 0 if the total is 0."""
    if not counts.pairs:
        return 0
    blocks = {block for jump, _ in counts.pairs for block in jump}
    return len(counts.pairs) - len(blocks) + 2
