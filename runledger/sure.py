"""What is sure: the runs that every ledger that fits has, counts that only one ledger fits, and who passes what."""

from runledger.between import ledger_with
from runledger.bounds import greatest, least
from runledger.errors import NoRun
from runledger.ledgers import some_ledger
from runledger.parts import Part
from runledger.walks import cut_at, jumps_of


def run_times(counts, run):
    """Return how often at least and at most the run was made."""
    if not counts.routine.is_run(run):
        raise NoRun(run)
    # No other run keeps to the jumps of a run.
    part = Part(counts.routine, jumps_of(run))
    return (least(counts, part)[0], greatest(counts, part)[0])


def sure_runs(counts):
    """Return the list of the runs that were surely made, each in a tuple with its least times."""
    # Every ledger that fits has all sure runs, so that one of few entries is enough to find them.
    found = [(run, run_times(counts, run)[0]) for run, _ in some_ledger(counts).entries]
    return [(run, times) for run, times in found if times > 0]


def blocks_behind_joins(blocks, live):
    """Return the ascending list of the blocks to which two live jumps lead, or one from a block of the list."""
    behind = {}
    for block in range(blocks):
        before = [u for u, v in live if v == block]
        if len(before) > 1 or any([u in behind for u in before]):
            behind[block] = True
    return list(behind)


def two_to_exchange(ledger, block):
    """Return two runs of the ledger that come to the block by unlike ways and go on by unlike ways."""
    passing = [cut_at(run, block) for run, _ in ledger.entries if block in run]
    for beginning, rest in passing:
        for other, tail in passing:
            if beginning != other and rest != tail:
                return [beginning + rest, other + tail]
    return []


def only_ledger(counts):
    """Return the only ledger that fits with blocks that show it, or one with an exchange that gives another one."""
    live = [jump for jump, _ in counts.pairs]
    ledger = some_ledger(counts)
    blocks = blocks_behind_joins(counts.routine.blocks, live)
    for block in blocks:
        # From a join to the first such block no run turns off, so that runs come to it by unlike ways.
        if len([v for u, v in live if u == block]) > 1:
            return ("more", ledger, *two_to_exchange(ledger, block), block)
    return ("one", ledger, blocks)


def whoever(counts, a, b):
    """Return whether all runs that pass or make the one item pass or make the other one, or none, or neither."""
    apart = Part.through(counts.routine, [a], barred=[b])
    number, ceiling = greatest(counts, apart)
    if number == 0:
        return ("all", ceiling)
    both = Part.through(counts.routine, [a, b])
    times, ceiling = greatest(counts, both)
    if times == 0:
        return ("none", ceiling)
    return ("open", ledger_with(counts, both, times), ledger_with(counts, apart, number))
