"""Histories of recorders, kept by hand, and what can be known of them, found slowly."""

from functools import lru_cache
from itertools import combinations_with_replacement
from random import Random

from runledger.recorder import Recorder
from tests import covering, search, webs


def entries_of(deeds):
    """The entries of all that was recorded, and of what was noted. Deeds are (run, times, noted)."""
    def added(chosen):
        times = {}
        for run, often, _ in chosen:
            times[run] = times.get(run, 0) + often
        return sorted(times.items())

    return added(deeds), added([deed for deed in deeds if deed[2]])


def fine_counts_of(entries, watched):
    """How often each jump is made, and each pair of jumps at a watched block."""
    counted = {}
    for run, times in entries:
        jumps = webs.pairs_of(run)
        pairs = [(jump, behind) for jump, behind in zip(jumps, jumps[1:]) if jump[1] in watched]
        for thing in [*jumps, *pairs]:
            counted[thing] = counted.get(thing, 0) + times
    return counted


@lru_cache(maxsize=None)
def ledgers_by_fine_counts(blocks, jumps, watched, total):
    """All entries with so many runs, those with the same fine counts together."""
    runs = webs.slow_runs(blocks, jumps)
    found = {}
    for chosen in combinations_with_replacement(runs, total):
        entries = [(run, chosen.count(run)) for run in runs if run in chosen]
        fine = frozenset(fine_counts_of(entries, watched).items())
        found.setdefault(fine, []).append(entries)
    return found


def possible_ledgers(web, watched, deeds):
    """All entries with the same fine counts as the deeds, and with what was noted."""
    entries, noted = entries_of(deeds)
    total = sum(times for _, times in entries)
    fine = frozenset(fine_counts_of(entries, watched).items())
    found = ledgers_by_fine_counts(web.blocks, tuple(web.jumps), tuple(watched), total)[fine]
    return [tried for tried in found if search.contains(tried, noted)]


def kept_in(cover, entries, part):
    """The number of the part, of the base or of the fine routine, in the entries."""
    if part.routine == cover.base:
        return search.kept(entries, part.jumps)
    return search.kept(covering.lifted(cover, entries), part.jumps)


class Model:
    """What a recorder must hold: the deeds of each piece, and the marks."""

    def __init__(self, web, watched):
        self.web, self.watched = web, watched
        self.pieces, self.marks = [[]], []

    def copied(self):
        model = Model(self.web, self.watched)
        model.pieces, model.marks = [list(deeds) for deeds in self.pieces], list(self.marks)
        return model

    def mark(self):
        self.marks.append([list(deeds) for deeds in self.pieces])

    def back_to(self, number):
        self.pieces = [list(deeds) for deeds in self.marks[number - 1]]

    def added(self, other):
        model = Model(self.web, self.watched)
        model.pieces = [list(deeds) for deeds in [*self.pieces, *other.pieces]]
        return model

    def deeds(self):
        return [deed for piece in self.pieces for deed in piece]


def some_history(web, watched, seed, steps, most):
    """A recorder and its model after so many deeds, with at most so many runs. Yields both after each deed."""
    chance = Random(seed)
    runs = list(web.all_runs())
    recorder, model = Recorder(web, watched=watched), Model(web, watched)
    for _ in range(steps):
        deed = chance.choice([*["enter"] * 5, "note", "cut", "cut", "mark", "back", "fork", "add"])
        left = most - sum(times for _, times, _ in model.deeds())
        if deed in ("enter", "note") and left > 0:
            run, times = chance.choice(runs), chance.randint(1, min(2, left))
            {"enter": recorder.enter, "note": recorder.note}[deed](run, times=times)
            model.pieces[-1].append((run, times, deed == "note"))
        elif deed == "cut" and len(model.pieces) < 4:
            recorder.cut()
            model.pieces.append([])
        elif deed == "mark" and len(model.marks) < 20:
            recorder.mark()
            model.mark()
        elif deed == "back" and model.marks:
            number = chance.randint(1, len(model.marks))
            recorder.back_to(number)
            model.back_to(number)
        elif deed == "fork":
            recorder, model = recorder.fork(), model.copied()
        elif deed == "add" and most - left <= left and len(model.pieces) < 3:
            recorder, model = recorder + recorder, model.added(model)
        yield recorder, model
