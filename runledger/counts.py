"""Counts: how often each jump of a routine was made."""

from runledger.checks import is_count, is_integer
from runledger.errors import BadCount, BadNumber, NoJump, OtherRoutine, Uneven


def is_named_count(value, routine):
    """Return whether the value, of any kind, is a tuple of a jump of the routine and a count."""
    if not isinstance(value, tuple) or len(value) != 2:
        return False
    jump, number = value
    return jump in routine and is_count(number)


def uneven_blocks(routine, numbers):
    """Return the ascending list of the inner blocks to which the numbers lead more or less than from them."""
    over = [0 for block in range(routine.blocks)]
    for u, v in numbers:
        over[u] = over[u] - numbers[(u, v)]
        over[v] = over[v] + numbers[(u, v)]
    return [block for block in range(1, routine.blocks - 1) if over[block] != 0]


def summed_counts(routine, numbers):
    """Return the Counts with these numbers of all jumps. They balance, and may be beyond what can be named."""
    made = Counts(routine, [])
    made._numbers = {jump: numbers[jump] for jump in routine.jumps}
    return made


class Counts:
    """Counts of a routine. At each inner block they balance."""

    def __init__(self, routine, pairs):
        named = {}
        for at, pair in enumerate(pairs):
            if not is_named_count(pair, routine) or pair[0] in named:
                raise BadCount(at)
            named[pair[0]] = pair[1]
        uneven = uneven_blocks(routine, named)
        if uneven:
            raise Uneven(uneven[0])
        self.routine = routine
        self._numbers = {jump: named.get(jump, 0) for jump in routine.jumps}

    @property
    def pairs(self):
        """The ascending list of the jumps with a count above 0, each in a tuple with it."""
        return [(jump, number) for jump, number in self._numbers.items() if number > 0]

    @property
    def total(self):
        """The number of runs."""
        return self.load(0)

    def __getitem__(self, jump):
        if jump not in self.routine:
            raise NoJump(jump)
        return self._numbers[jump]

    def __iter__(self):
        raise TypeError("counts are asked jump by jump")

    def __add__(self, other):
        if not isinstance(other, Counts):
            return NotImplemented
        if self.routine != other.routine:
            raise OtherRoutine()
        return summed_counts(self.routine, {jump: self[jump] + other[jump] for jump in self.routine.jumps})

    def __mul__(self, other):
        if not is_integer(other):
            return NotImplemented
        return summed_counts(self.routine, {jump: self[jump] * other for jump in self.routine.jumps})

    def __rmul__(self, other):
        if not is_integer(other):
            return NotImplemented
        return self * other

    def __eq__(self, other):
        return isinstance(other, Counts) and self.routine == other.routine and self._numbers == other._numbers

    def load(self, block):
        """Return how many runs pass the block."""
        # To the first block no jump leads.
        jumps = self.routine.outs(block) if block == 0 else self.routine.ins(block)
        return sum([self._numbers[jump] for jump in jumps])


class Tally:
    """Numbers of the jumps of a routine that are being set, and need not balance."""

    def __init__(self, routine):
        self.routine = routine
        self._numbers = {jump: 0 for jump in routine.jumps}

    def __getitem__(self, jump):
        if jump not in self.routine:
            raise NoJump(jump)
        return self._numbers[jump]

    def __setitem__(self, jump, number):
        if jump not in self.routine:
            raise NoJump(jump)
        if not is_count(number):
            raise BadNumber()
        self._numbers[jump] = number

    def __iter__(self):
        raise TypeError("a tally is asked jump by jump")

    def __iadd__(self, other):
        if not isinstance(other, Counts):
            return NotImplemented
        if self.routine != other.routine:
            raise OtherRoutine()
        for jump in self.routine.jumps:
            self._numbers[jump] = self._numbers[jump] + other[jump]
        return self

    def uneven(self):
        """Return the ascending list of the inner blocks at which the numbers do not balance."""
        return uneven_blocks(self.routine, self._numbers)

    def counts(self):
        """Return the Counts with the numbers as they are now."""
        uneven = self.uneven()
        if uneven:
            raise Uneven(uneven[0])
        return summed_counts(self.routine, self._numbers)
