"""Runs over given jumps.

The functions take the number of blocks and the jumps as an ascending list. As jumps lead
to greater blocks only, all jumps to a block stand before those from it in such a list, so
that going through it once is enough.
"""


def jumps_of(run):
    """Return the list of the jumps that the run makes."""
    return list(zip(run, run[1:]))


def cut_at(run, block):
    """Return the beginning of the run before the block, and its rest from the block on."""
    at = run.index(block)
    return (run[:at], run[at:])


def jumps_on_runs(blocks, jumps):
    """Return those of the jumps that lie on a run that makes no others."""
    begun = [block == 0 for block in range(blocks)]
    for u, v in jumps:
        if begun[u]:
            begun[v] = True
    ending = [block == blocks - 1 for block in range(blocks)]
    for u, v in jumps[::-1]:
        if ending[v]:
            ending[u] = True
    return [(u, v) for u, v in jumps if begun[u] and ending[v]]


def number_of_runs(blocks, jumps):
    """Return the number of the runs that make these jumps only, without listing them."""
    ways = [1 if block == 0 else 0 for block in range(blocks)]
    for u, v in jumps:
        ways[v] = ways[v] + ways[u]
    return ways[blocks - 1]


def runs_along(blocks, jumps):
    """Yield the runs that make these jumps only, ascending."""
    ahead = [[] for block in range(blocks)]
    # Beginnings that reach no end can be billions: they are never gone into.
    for u, v in jumps_on_runs(blocks, jumps)[::-1]:
        ahead[u].append(v)
    begun = [(0,)]
    while begun:
        run = begun.pop()
        if run[-1] == blocks - 1:
            yield run
        else:
            begun.extend([(*run, block) for block in ahead[run[-1]]])


def run_with(blocks, jumps, jump):
    """Return a run that makes the jump and these jumps only, each of which lies on such runs."""
    before = {v: u for u, v in jumps}
    after = {u: v for u, v in jumps}
    run = list(jump)
    while run[0] != 0:
        run.insert(0, before[run[0]])
    while run[-1] != blocks - 1:
        run.append(after[run[-1]])
    return tuple(run)
