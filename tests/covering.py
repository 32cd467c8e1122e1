"""Covers worked out slowly, by the words of points 23 to 25."""

from functools import lru_cache

from runledger.covers import Cover
from tests import webs


def slow_is_cover(base, names, jumps):
    """The words of point 23, block by block and jump by jump. The values are of any kind."""
    blocks, last = len(names), base.blocks - 1
    if not 2 <= blocks <= 40 or len(jumps) > 120:
        return False
    if not all(type(name) is int and 0 <= name <= last for name in names):
        return False
    possible = webs.all_pairs(blocks)
    if not all(type(jump) is tuple and all(type(block) is int for block in jump) and jump in possible
               for jump in jumps):
        return False
    if len(set(jumps)) < len(jumps):
        return False
    if [at for at, name in enumerate(names) if name == 0] != [0]:
        return False
    if [at for at, name in enumerate(names) if name == last] != [blocks - 1]:
        return False
    wanted = [(u, jump[1]) for u in range(blocks) for jump in base.jumps if jump[0] == names[u]]
    return sorted(wanted) == sorted((u, names[v]) for u, v in jumps)


def slow_lift(names, jumps, run):
    """The fine run with these names: there must be just one."""
    return lifted_run(tuple(names), tuple(jumps), run)


@lru_cache(maxsize=None)
def lifted_run(names, jumps, run):
    fine = [(0,)]
    for block in run[1:]:
        fine = [(*begun, v) for begun in fine for u, v in jumps if u == begun[-1] and names[v] == block]
    assert len(fine) == 1
    return fine[0]


def lifted(cover, entries):
    """The entries with lifted runs, ascending."""
    jumps = cover.fine.jumps
    return sorted((slow_lift(cover.names, jumps, run), times) for run, times in entries)


def slow_sums(cover, pairs):
    """The pairs (jump of the base, count) above 0 that pairs of the fine routine add up to."""
    added = {}
    for (u, v), often in pairs:
        jump = (cover.names[u], cover.names[v])
        added[jump] = added.get(jump, 0) + often
    return sorted((jump, often) for jump, often in added.items() if often)


def slow_watching(base, watched):
    """Names and jumps of the cover that watches these blocks, block by block."""
    places = []
    for block in range(base.blocks):
        if block in watched:
            places.extend(jump for jump in base.jumps if jump[1] == block)
        else:
            places.append(block)
    names = [place if isinstance(place, int) else place[1] for place in places]
    jumps = []
    for at, name in enumerate(names):
        for jump in base.jumps:
            if jump[0] == name:
                jumps.append((at, places.index(jump if jump[1] in watched else jump[1])))
    return names, jumps


def slow_copied(cover, block, ins):
    """Names and jumps after the block was copied for some of the jumps to it."""
    number = {old: old if old <= block else old + 1 for old in range(cover.fine.blocks)}
    names = {number[old]: name for old, name in enumerate(cover.names)}
    names[block + 1] = cover.names[block]
    jumps = [(number[u], block + 1 if (u, v) in ins else number[v]) for u, v in cover.fine.jumps]
    jumps.extend((block + 1, number[v]) for u, v in cover.fine.jumps if u == block)
    return [names[at] for at in sorted(names)], sorted(jumps)


def slow_made_one(cover, first, second):
    """Names and jumps after two twins were made one."""
    left = [block for block in range(cover.fine.blocks) if block != first]
    number = {old: new for new, old in enumerate(left)}
    number[first] = number[second]
    jumps = {(number[u], number[v]) for u, v in cover.fine.jumps if u != first}
    return [cover.names[block] for block in left], sorted(jumps)


def some_covers(base):
    """Covers of many kinds: plain, watching, copied, with twins made one, and one behind another."""
    inner = range(1, base.blocks - 1)
    found = [Cover.plain(base)]
    for watched in list(webs.subsets(inner))[::3]:
        found.append(Cover.watching(base, watched))
    for cover in list(found):
        for block in range(1, cover.fine.blocks - 1):
            ins = cover.fine.ins(block)
            if len(ins) > 1 and cover.fine.blocks < 12:
                found.append(cover.copied(block, ins[:1]))
                found.append(found[-1].then(Cover.watching(found[-1].fine, [1])))
    return found
