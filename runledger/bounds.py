"""How many runs at most and at least keep to a part, and the ceilings and floors that show it."""

from runledger.checks import is_block
from runledger.errors import NoCeiling, NoFloor, OtherRoutine
from runledger.flows import greatest_flow


def is_ceiling(routine, value):
    """Return whether the value, of any kind, is a ceiling of the routine."""
    return is_floor(routine, value) and routine.blocks - 1 not in value


def is_floor(routine, value):
    """Return whether the value, of any kind, is a floor of the routine."""
    if not isinstance(value, list) or not all([is_block(block, routine.blocks) for block in value]):
        return False
    return value[:1] == [0] and all([block < later for block, later in zip(value, value[1:])])


def ceiling_weight(counts, part, blocks):
    """Return the number that shows how many runs at most keep to the part."""
    if counts.routine != part.routine:
        raise OtherRoutine()
    if not is_ceiling(counts.routine, blocks):
        raise NoCeiling()
    return sum([counts[(u, v)] for u, v in part.jumps if u in blocks and v not in blocks])


def floor_weight(counts, part, blocks):
    """Return the number that shows how many runs at most leave the part."""
    if counts.routine != part.routine:
        raise OtherRoutine()
    if not is_floor(counts.routine, blocks):
        raise NoFloor()
    jumps = [(u, v) for u, v in counts.routine.jumps if u in blocks]
    return sum([counts[(u, v)] for u, v in jumps if v not in blocks or (u, v) not in part])


def arcs_of_beginnings(counts, part):
    """Return the arcs, one for each jump, on which runs flow for as long as they keep to the part.

    A jump outside of the part leads to one more node behind the last block. What flows to it are beginnings
    of runs that leave the part, and the counts that they do not use always hold the rests of these runs.
    """
    aside = counts.routine.blocks
    return [(u, v if (u, v) in part else aside, counts[(u, v)]) for u, v in counts.routine.jumps]


def greatest(counts, part):
    """Return the greatest number of the part, and a ceiling that shows that no ledger has more."""
    if counts.routine != part.routine:
        raise OtherRoutine()
    arcs = [(u, v, counts[(u, v)]) for u, v in part.jumps]
    _, ceiling = greatest_flow(counts.routine.blocks, arcs)
    return (ceiling_weight(counts, part, ceiling), ceiling)


def least(counts, part):
    """Return the least number of the part, and a floor that shows that no ledger has fewer."""
    if counts.routine != part.routine:
        raise OtherRoutine()
    _, floor = greatest_flow(counts.routine.blocks + 1, arcs_of_beginnings(counts, part))
    return (counts.total - floor_weight(counts, part, floor), floor)
