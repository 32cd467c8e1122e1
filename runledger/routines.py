"""Routines: webs of blocks and jumps without loops."""

from runledger.checks import is_block, is_integer, is_jump
from runledger.errors import BadBlocks, BadJump, BadText, NoBlock, TooLarge
from runledger.lines import number_behind, numbers_of
from runledger.walks import jumps_of, number_of_runs, runs_along

LEAST_BLOCKS = 2
MOST_BLOCKS = 40
MOST_JUMPS = 120


def can_have_blocks(blocks):
    """Return whether a routine can have this number of blocks."""
    return is_integer(blocks) and LEAST_BLOCKS <= blocks <= MOST_BLOCKS


class Routine:
    """A routine: its blocks are numbered from 0, its jumps lead to greater blocks."""

    def __init__(self, blocks, jumps):
        if not can_have_blocks(blocks):
            raise BadBlocks()
        known = {}
        for at, jump in enumerate(jumps):
            if not is_jump(jump, blocks) or jump in known:
                raise BadJump(at)
            known[jump] = True
        if len(known) > MOST_JUMPS:
            raise TooLarge(MOST_JUMPS)
        self.blocks = blocks
        self._known = known
        self._jumps = sorted(set(known))

    @property
    def jumps(self):
        """The ascending list of the jumps."""
        return list(self._jumps)

    def __len__(self):
        return len(self._jumps)

    def __contains__(self, jump):
        return is_jump(jump, self.blocks) and jump in self._known

    def __eq__(self, other):
        return isinstance(other, Routine) and self.blocks == other.blocks and self._jumps == other._jumps

    def __str__(self):
        return "\n".join([f"blocks {self.blocks}", *[f"{u} {v}" for u, v in self._jumps]])

    @staticmethod
    def parse(text):
        """Return the routine of which this is the text."""
        if not isinstance(text, str):
            raise BadText(1)
        lines = text.split("\n")
        blocks = number_behind(lines[0], "blocks")
        if not can_have_blocks(blocks):
            raise BadText(1)
        jumps = []
        last = (0, 0)
        for at, line in enumerate(lines[1:], start=2):
            jump = tuple(numbers_of(line))
            if not is_jump(jump, blocks) or jump <= last or len(jumps) == MOST_JUMPS:
                raise BadText(at)
            jumps.append(jump)
            last = jump
        return Routine(blocks, jumps)

    def ins(self, block):
        """Return the ascending list of the jumps to the block."""
        if not is_block(block, self.blocks):
            raise NoBlock(block)
        return [(u, v) for u, v in self._jumps if v == block]

    def outs(self, block):
        """Return the ascending list of the jumps from the block."""
        if not is_block(block, self.blocks):
            raise NoBlock(block)
        return [(u, v) for u, v in self._jumps if u == block]

    def is_run(self, value):
        """Return whether the value, of any kind, is a run."""
        if not isinstance(value, tuple) or len(value) < 2:
            return False
        if not all([is_block(block, self.blocks) for block in value]):
            return False
        if value[0] != 0 or value[-1] != self.blocks - 1:
            return False
        return all([jump in self._known for jump in jumps_of(value)])

    def how_many(self):
        """Return the number of runs."""
        return number_of_runs(self.blocks, self._jumps)

    def all_runs(self):
        """Yield all runs, ascending, one by one."""
        yield from runs_along(self.blocks, self._jumps)
