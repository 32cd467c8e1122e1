"""Routines: webs of blocks and jumps without loops."""

from runledger.checks import MOST_JUMPS, can_have_blocks, is_block, is_jump
from runledger.errors import BadBlocks, BadJump, NoBlock, TooLarge
from runledger.lines import rows_of
from runledger.walks import jumps_of, number_of_runs, runs_along


class Routine:
    """A routine: its blocks are numbered from 0, its jumps lead to greater blocks."""

    def __init__(self, blocks, jumps):
        if not can_have_blocks(blocks):
            raise BadBlocks()
        known = {}
        for at, jump in enumerate(jumps):
            if not is_jump(jump, blocks) or jump in known:
                raise BadJump(at)
            known[jump] = True
        if len(known) > MOST_JUMPS:
            raise TooLarge(MOST_JUMPS)
        self.blocks = blocks
        self._known = known
        self._jumps = sorted(set(known))

    @property
    def jumps(self):
        """The ascending list of the jumps."""
        return list(self._jumps)

    def __len__(self):
        return len(self._jumps)

    def __contains__(self, jump):
        return is_jump(jump, self.blocks) and jump in self._known

    def __eq__(self, other):
        return isinstance(other, Routine) and self.blocks == other.blocks and self._jumps == other._jumps

    def __str__(self):
        return "\n".join([f"blocks {self.blocks}", *[f"{u} {v}" for u, v in self._jumps]])

    @staticmethod
    def parse(text):
        """Return the routine of which this is the text."""
        blocks, rows = rows_of(text, 2)
        return Routine(blocks, [(u, v) for u, v in rows])

    def ins(self, block):
        """Return the ascending list of the jumps to the block."""
        if not is_block(block, self.blocks):
            raise NoBlock(block)
        return [(u, v) for u, v in self._jumps if v == block]

    def outs(self, block):
        """Return the ascending list of the jumps from the block."""
        if not is_block(block, self.blocks):
            raise NoBlock(block)
        return [(u, v) for u, v in self._jumps if u == block]

    def is_run(self, value):
        """Return whether the value, of any kind, is a run."""
        if not isinstance(value, tuple) or len(value) < 2:
            return False
        if not all([is_block(block, self.blocks) for block in value]):
            return False
        if value[0] != 0 or value[-1] != self.blocks - 1:
            return False
        return all([jump in self._known for jump in jumps_of(value)])

    def how_many(self):
        """Return the number of runs."""
        return number_of_runs(self.blocks, self._jumps)

    def all_runs(self):
        """Yield all runs, ascending, one by one."""
        yield from runs_along(self.blocks, self._jumps)
