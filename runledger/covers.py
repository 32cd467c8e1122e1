"""Covers: routines in which a block of a base may be there several times, for unlike ways to it."""

from runledger.checks import MOST_BLOCKS, MOST_JUMPS, is_block, is_inner
from runledger.counts import summed_counts
from runledger.errors import BadBlocks, BadCover, BadIns, BadJump, NoJump
from runledger.errors import NoRun, NotInner, NotTwins, OtherRoutine, TooLarge
from runledger.flows import least_of
from runledger.ledgers import summed_ledger
from runledger.parts import Part
from runledger.routines import Routine


def fine_routine(names, jumps):
    """Return the routine with as many blocks as there are names, and the jumps, of any values."""
    try:
        return Routine(len(names), jumps)
    except (BadBlocks, BadJump, TooLarge):
        raise BadCover() from None


def can_be_names(base, names):
    """Return whether these values, at least two, are blocks of the base, the two ends of it there once, as the ends."""
    last = base.blocks - 1
    if not all([is_block(name, base.blocks) for name in names]):
        return False
    return names[0] == 0 and names[-1] == last and names.count(0) == 1 and names.count(last) == 1


def fine_steps(names, fine):
    """Return where runs come to from a fine block on the way to a block of the base, by these two."""
    return {(u, names[v]): v for u, v in fine.jumps}


def wanted_steps(base, names):
    """Return the list of all pairs of a fine block and a block of the base for which there must be a fine jump."""
    return [(block, w) for block, name in enumerate(names) for u, w in base.jumps if u == name]


def cover_within_bounds(base, names, jumps):
    """Return the Cover, unless it is too large."""
    if len(names) > MOST_BLOCKS:
        raise TooLarge(MOST_BLOCKS)
    if len(jumps) > MOST_JUMPS:
        raise TooLarge(MOST_JUMPS)
    return Cover(base, names, jumps)


def watched_places(routine, watched):
    """Return the fine blocks as tuples of the name and the block before it, which is -1 for what is not watched."""
    places = []
    for block in range(routine.blocks):
        if block in watched:
            places.extend([(block, u) for u, _ in routine.ins(block)])
        else:
            places.append((block, -1))
    return places


def jumps_with_copy(jumps, block, chosen):
    """Return the jumps after the block was copied for the chosen jumps to it."""
    copied = []
    for u, v in jumps:
        tail = u + 1 if u > block else u
        head = v + 1 if v > block or (u, v) in chosen else v
        copied.append((tail, head))
        if u == block:
            copied.append((block + 1, head))
    return copied


def jumps_made_one(jumps, first, second):
    """Return the jumps after the first block was taken out and the jumps to it lead to the second one."""
    heads = [(u, second if v == first else v) for u, v in jumps if u != first]
    return [(u - 1 if u > first else u, v - 1 if v > first else v) for u, v in heads]


def are_twins(cover, first, second):
    """Return whether the values are two twins of the cover in their order."""
    fine, names = cover.fine, cover.names
    if not is_inner(first, fine.blocks) or not is_inner(second, fine.blocks) or first >= second:
        return False
    heads, others = [v for u, v in fine.outs(first)], [v for u, v in fine.outs(second)]
    return names[first] == names[second] and heads == others


class Cover:
    """A cover of a base: a fine routine of which each block has the name of a block of the base."""

    def __init__(self, base, names, jumps):
        fine = fine_routine(names, jumps)
        if not can_be_names(base, names):
            raise BadCover()
        steps = fine_steps(names, fine)
        if len(steps) != len(fine) or set(steps) != set(wanted_steps(base, names)):
            raise BadCover()
        self.base = base
        self.fine = fine
        self._names = list(names)
        self._steps = steps

    @property
    def names(self):
        """The list of the names of the fine blocks."""
        return list(self._names)

    def __eq__(self, other):
        return (isinstance(other, Cover) and self.base == other.base and self._names == other._names
                and self.fine == other.fine)

    @staticmethod
    def plain(routine):
        """Return the cover in which each block stands for itself."""
        return Cover(routine, list(range(routine.blocks)), routine.jumps)

    @staticmethod
    def watching(routine, blocks):
        """Return the cover that has, for each of the blocks, a block for each jump to it."""
        for block in blocks:
            if not is_inner(block, routine.blocks):
                raise NotInner(block)
        places = watched_places(routine, blocks)
        heads = {place: head for head, place in enumerate(places)}
        jumps = []
        for tail, (name, _) in enumerate(places):
            jumps.extend([(tail, heads[(v, u if v in blocks else -1)]) for u, v in routine.outs(name)])
        return cover_within_bounds(routine, [name for name, _ in places], jumps)

    def lift(self, run):
        """Return the fine run whose blocks have the blocks of the run as names."""
        if not self.base.is_run(run):
            raise NoRun(run)
        lifted = [0]
        for block in run[1:]:
            lifted.append(self._steps[(lifted[-1], block)])
        return tuple(lifted)

    def name(self, run):
        """Return the run of the base that is lifted to the fine run."""
        if not self.fine.is_run(run):
            raise NoRun(run)
        return tuple([self._names[block] for block in run])

    def lift_part(self, part):
        """Return the part of the fine jumps whose names are a jump of the part."""
        if part.routine != self.base:
            raise OtherRoutine()
        return Part(self.fine, [(u, v) for u, v in self.fine.jumps if (self._names[u], self._names[v]) in part])

    def lift_ledger(self, ledger):
        """Return the Ledger with the lifted runs."""
        if ledger.routine != self.base:
            raise OtherRoutine()
        return summed_ledger(self.fine, [(self.lift(run), times) for run, times in ledger.entries])

    def name_ledger(self, ledger):
        """Return the Ledger with the runs of the base that are lifted to those of the ledger."""
        if ledger.routine != self.fine:
            raise OtherRoutine()
        return summed_ledger(self.base, [(self.name(run), times) for run, times in ledger.entries])

    def sums(self, counts):
        """Return the Counts of the base that counts of the fine routine add up to."""
        if counts.routine != self.fine:
            raise OtherRoutine()
        numbers = {jump: 0 for jump in self.base.jumps}
        for u, v in self.fine.jumps:
            jump = (self._names[u], self._names[v])
            numbers[jump] = numbers[jump] + counts[(u, v)]
        return summed_counts(self.base, numbers)

    def copied(self, block, ins):
        """Return the Cover in which the fine block is copied for some of the jumps to it."""
        if not is_inner(block, self.fine.blocks):
            raise NotInner(block)
        known = self.fine.ins(block)
        for jump in ins:
            if jump not in self.fine or jump not in known:
                raise NoJump(jump)
        chosen = [jump for jump in known if jump in ins]
        if not chosen or chosen == known:
            raise BadIns()
        names = [*self._names[:block + 1], *self._names[block:]]
        return cover_within_bounds(self.base, names, jumps_with_copy(self.fine.jumps, block, chosen))

    def made_one(self, first, second):
        """Return the Cover in which two twins are one block."""
        if not are_twins(self, first, second):
            raise NotTwins()
        names = [*self._names[:first], *self._names[first + 1:]]
        return Cover(self.base, names, jumps_made_one(self.fine.jumps, first, second))

    def then(self, other):
        """Return the Cover that this one makes with a cover of its fine routine."""
        if other.base != self.fine:
            raise OtherRoutine()
        return Cover(self.base, [self._names[name] for name in other.names], other.fine.jumps)


def new_numbers(counts, block, ins):
    """Return (jump, least, greatest) of the counts that each jump can have once the block is copied."""
    cover = Cover.plain(counts.routine).copied(block, ins)
    names, load = cover.names, counts.load(block)
    moved = sum([counts[jump] for jump in counts.routine.ins(block) if jump in ins])
    loads = {block: load - moved, block + 1: moved}
    rows = []
    for u, v in cover.fine.jumps:
        number = counts[(names[u], names[v])]
        if u in loads:
            # The other one of both blocks can make the jump only as often as it is passed.
            rows.append(((u, v), max(0, number + loads[u] - load), least_of([number, loads[u]])))
        else:
            rows.append(((u, v), number, number))
    return rows
