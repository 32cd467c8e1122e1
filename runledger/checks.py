"""What values of any kind are asked before they are used, and the bounds that they are held to."""

LEAST_BLOCKS = 2
MOST_BLOCKS = 40
MOST_JUMPS = 120
# The greatest count, and the greatest number of times, that may be named. Sums may be beyond it.
MOST_TIMES = 10 ** 30


def is_integer(value):
    """Return whether this is an int and no bool."""
    return isinstance(value, int) and not isinstance(value, bool)


def can_have_blocks(blocks):
    """Return whether a routine can have this number of blocks."""
    return is_integer(blocks) and LEAST_BLOCKS <= blocks <= MOST_BLOCKS


def is_block(value, blocks):
    """Return whether this is one of so many blocks."""
    return is_integer(value) and 0 <= value < blocks


def is_inner(value, blocks):
    """Return whether this is one of so many blocks, and neither the first nor the last one."""
    return is_block(value, blocks) and value != 0 and value != blocks - 1


def is_jump(value, blocks):
    """Return whether this could be a jump of a routine with so many blocks."""
    if not isinstance(value, tuple) or len(value) != 2:
        return False
    u, v = value
    return is_block(u, blocks) and is_block(v, blocks) and u < v


def is_count(value):
    """Return whether this is a count that may be named."""
    return is_integer(value) and 0 <= value <= MOST_TIMES


def is_times(value):
    """Return whether this is a number of times that may be named."""
    return is_count(value) and value > 0
