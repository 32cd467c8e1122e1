"""Routines to test with, and the promises worked out slowly, word by word."""

import signal
from contextlib import contextmanager
from itertools import combinations

from runledger.parts import Part
from runledger.routines import Routine

DIAMOND_JUMPS = [(0, 1), (0, 2), (1, 3), (2, 3)]
DOUBLE_JUMPS = [(0, 1), (0, 2), (1, 3), (2, 3), (3, 4), (3, 5), (4, 6), (5, 6)]


@contextmanager
def within(seconds):
    """Fail, not hang, if what stands inside goes through billions of runs."""
    def stop(*_):
        raise AssertionError(f"not done within {seconds} seconds")

    before = signal.signal(signal.SIGALRM, stop)
    signal.alarm(seconds)
    try:
        yield
    finally:
        signal.alarm(0)
        signal.signal(signal.SIGALRM, before)


def diamond():
    return Routine(4, list(DIAMOND_JUMPS))


def double():
    return Routine(7, list(DOUBLE_JUMPS))


def ladder():
    """The routine of 40 blocks with a jump from each to the next three: billions of runs."""
    return Routine(40, [(u, v) for u in range(40) for v in range(u + 1, min(u + 4, 40))])


def ladder_to_nowhere():
    """One run, beside billions of ways from the first block that never come to the last one."""
    jumps = [(u, v) for u in range(38) for v in range(u + 1, min(u + 4, 38))]
    return Routine(40, [*jumps, (0, 39), (38, 39)])


def ladder_runs():
    ways = [1, 1, 2]
    while len(ways) < 40:
        ways.append(sum(ways[-3:]))
    return ways[39]


def all_pairs(blocks):
    return list(combinations(range(blocks), 2))


def subsets(things):
    things = list(things)
    for size in range(len(things) + 1):
        yield from (list(chosen) for chosen in combinations(things, size))


def all_webs(blocks):
    for jumps in subsets(all_pairs(blocks)):
        yield Routine(blocks, jumps)


def pairs_of(run):
    return [(run[k], run[k + 1]) for k in range(len(run) - 1)]


def slow_runs(blocks, jumps):
    """All runs, by trying each set of inner blocks."""
    tried = [(0, *inner, blocks - 1) for inner in subsets(range(1, blocks - 1))]
    return sorted(run for run in tried if all(jump in jumps for jump in pairs_of(run)))


def has(run, item):
    return item in run if isinstance(item, int) else item in pairs_of(run)


def deep(value, levels, kind):
    for _ in range(levels):
        value = kind([value])
    return value


def odd_values():
    """Values of many kinds. None is a number of blocks, a block, a jump, a run or a text of a routine."""
    web = diamond()
    part = Part(web, [(0, 1)])
    return [
        None, True, False, "", "a", "0", "1", "blocks", "0 1", -1, 41, 120, 10 ** 39, -10 ** 39,
        (), (0,), (1,), (0, True), (False, 1), (True, 3), (0, "1"), ("0", "1"), (0, None), (None, None),
        (1, 0), (2, 2), (0, 0), (-1, 2), (0, 10 ** 39), (-10 ** 39, 0), (0, 41), (0, 1, 2), ((0, 1),), ((0, 1), 1),
        ((0, 1), (1, 3)), (0, (1, 3)), ([0], [1]), (0, [1]), (0, 1, []), (0, 1, 3, 3), (0, 3, 1, 3), (False, 1, 3),
        (0, True, 3), (0, "1", 3), (0, None, 3), (3, 1, 0), (-4, -3, -1), tuple(range(50)), tuple([0] * 300),
        [], [0], [0, 1], [(0, 1)], [0, 1, 3], [[0, 1]], [[0, 1], [1, 3]], ["blocks 2"],
        deep(0, 29, tuple), deep(0, 29, list), deep((0, 1), 29, list), (0, deep(1, 28, tuple)), (deep(0, 28, list), 1),
        web, part, web.jumps, [web], (web, part), (0, part), list(web.all_runs()), (part,),
    ]
