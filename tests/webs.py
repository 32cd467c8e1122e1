"""Routines to test with, and the promises worked out slowly, word by word."""

import signal
from contextlib import contextmanager
from itertools import combinations

from runledger.counts import Counts, Tally
from runledger.ledgers import Ledger
from runledger.parts import Part
from runledger.routines import Routine

BIG = 10 ** 30
DIAMOND_JUMPS = [(0, 1), (0, 2), (1, 3), (2, 3)]
DOUBLE_JUMPS = [(0, 1), (0, 2), (1, 3), (2, 3), (3, 4), (3, 5), (4, 6), (5, 6)]


@contextmanager
def within(seconds):
    """Fail, not hang, if what stands inside goes through billions of runs."""
    def stop(*_):
        raise AssertionError(f"not done within {seconds} seconds")

    before = signal.signal(signal.SIGALRM, stop)
    signal.alarm(seconds)
    try:
        yield
    finally:
        signal.alarm(0)
        signal.signal(signal.SIGALRM, before)


def full_web(blocks):
    """All jumps there can be."""
    return Routine(blocks, all_pairs(blocks))


def web_with_dead_ends():
    """Block 3 is reached by no run, block 4 reaches the last block on no run."""
    return Routine(6, [(0, 1), (0, 2), (0, 4), (1, 2), (1, 5), (2, 5), (3, 5), (3, 4)])


def bare_webs():
    """Routines of one run or of none."""
    return [Routine(2, [(0, 1)]), Routine(2, []), Routine(3, [(0, 1)]), Routine(5, [])]


def diamond():
    return Routine(4, list(DIAMOND_JUMPS))


def double():
    return Routine(7, list(DOUBLE_JUMPS))


def chain():
    """Three choices, one behind the other."""
    jumps = [(u + 3 * k, v + 3 * k) for k in range(3) for u, v in DIAMOND_JUMPS]
    return Routine(10, jumps)


# Made once each: a short way by 2 and 5 is in the way of two longer ones, by 2, 6, 7 and by 3, 4, 5.
CROSSING_JUMPS = [(0, 1), (0, 2), (0, 3), (1, 2), (2, 5), (2, 6), (3, 4), (4, 5), (5, 8), (5, 9), (6, 7), (7, 9),
                  (8, 9)]


def crossing(times):
    """A crossing for each of the times, side by side, and counts that make all of its jumps so often."""
    last = 8 * len(times) + 1
    pairs = []
    for at, often in enumerate(times):
        blocks = [0, *range(8 * at + 1, 8 * at + 9), last]
        pairs.extend(((blocks[u], blocks[v]), often) for u, v in CROSSING_JUMPS)
    return Counts(Routine(last + 1, [jump for jump, _ in pairs]), pairs)


def without(routine, barred):
    """The part of all jumps of crossings but these, which are told as those of the first one."""
    def names(jump):
        return tuple(9 if block == routine.blocks - 1 else block and (block - 1) % 8 + 1 for block in jump)

    return Part(routine, [jump for jump in routine.jumps if names(jump) not in barred])


def ladder():
    """The routine of 40 blocks with a jump from each to the next three: billions of runs."""
    return Routine(40, [(u, v) for u in range(40) for v in range(u + 1, min(u + 4, 40))])


def ladder_to_nowhere():
    """One run, beside billions of ways from the first block that never come to the last one."""
    jumps = [(u, v) for u in range(38) for v in range(u + 1, min(u + 4, 38))]
    return Routine(40, [*jumps, (0, 39), (38, 39)])


def wide_ladder():
    """A routine of 40 blocks and 120 jumps, of unlike lengths, with very many runs."""
    steps = [1, 2, 5, 17]
    jumps = [(u, u + step) for step in steps for u in range(40 - step)]
    return Routine(40, jumps[:120])


def big_counts(web):
    """Counts near 10 ** 30 or beyond it, of runs that use the jumps of the routine unlike often."""
    runs = []
    for at in range(60):
        run = [0]
        while run[-1] != web.blocks - 1:
            outs = web.outs(run[-1])
            run.append(outs[(at * len(run) + at // 7) % len(outs)][1])
        runs.append((tuple(run), BIG - at ** 9))
    return Ledger(web, runs).counts()


def many_parts(web):
    """Parts of unlike kinds, also of jumps on no run that keeps to them."""
    barred = [[jump for at, jump in enumerate(web.jumps) if at * at % step == 1] for step in (5, 7, 16, 23)]
    parts = [Part(web, [jump for jump in web.jumps if jump not in jumps]) for jumps in barred]
    parts.extend(Part.through(web, items) for items in [[7, 20, 33], [(7, 8), 21], [(3, 5), (30, 32)]])
    parts.extend([Part(web, []), Part(web, web.jumps), Part(web, web.jumps[:60]), Part(web, web.jumps[30:])])
    return parts


def ladder_runs():
    ways = [1, 1, 2]
    while len(ways) < 40:
        ways.append(sum(ways[-3:]))
    return ways[39]


def all_pairs(blocks):
    return list(combinations(range(blocks), 2))


def subsets(things):
    things = list(things)
    for size in range(len(things) + 1):
        yield from (list(chosen) for chosen in combinations(things, size))


def all_webs(blocks):
    for jumps in subsets(all_pairs(blocks)):
        yield Routine(blocks, jumps)


def pairs_of(run):
    return [(run[k], run[k + 1]) for k in range(len(run) - 1)]


def slow_runs(blocks, jumps):
    """All runs, by trying each set of inner blocks."""
    tried = [(0, *inner, blocks - 1) for inner in subsets(range(1, blocks - 1))]
    return sorted(run for run in tried if all(jump in jumps for jump in pairs_of(run)))


def has(run, item):
    return item in run if isinstance(item, int) else item in pairs_of(run)


def deep(value, levels, kind):
    for _ in range(levels):
        value = kind([value])
    return value


def odd_values():
    """Values of many kinds. None is a number of blocks, a block, a jump, a run or a text of a routine."""
    web = diamond()
    part = Part(web, [(0, 1)])
    ledger = Ledger(web, [((0, 1, 3), 2)])
    counts, tally = Counts(web, ledger.counts().pairs), Tally(web)
    return [
        None, True, False, "", "a", "0", "1", "blocks", "0 1", -1, 41, 120, 10 ** 39, -10 ** 39,
        (), (0,), (1,), (0, True), (False, 1), (True, 3), (0, "1"), ("0", "1"), (0, None), (None, None),
        (1, 0), (2, 2), (0, 0), (-1, 2), (0, 10 ** 39), (-10 ** 39, 0), (0, 41), (0, 1, 2), ((0, 1),), ((0, 1), 1),
        ((0, 1), (1, 3)), (0, (1, 3)), ([0], [1]), (0, [1]), (0, 1, []), (0, 1, 3, 3), (0, 3, 1, 3), (False, 1, 3),
        (0, True, 3), (0, "1", 3), (0, None, 3), (3, 1, 0), (-4, -3, -1), tuple(range(50)), tuple([0] * 300),
        [], [0], [0, 1], [(0, 1)], [0, 1, 3], [[0, 1]], [[0, 1], [1, 3]], ["blocks 2"],
        deep(0, 29, tuple), deep(0, 29, list), deep((0, 1), 29, list), (0, deep(1, 28, tuple)), (deep(0, 28, list), 1),
        web, part, web.jumps, [web], (web, part), (0, part), list(web.all_runs()), (part,),
        counts, tally, ledger, counts.pairs, ledger.entries, (counts, 1), (0, ledger), [ledger, tally],
    ]
