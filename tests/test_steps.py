"""Point 37: the number of steps of a call does not grow with the sizes of counts and times."""

import sys
import unittest

from runledger.between import known_numbers, ledger_with
from runledger.bounds import greatest, least
from runledger.covers import Cover, new_numbers
from runledger.ledgers import Ledger, some_ledger
from runledger.parts import Part
from runledger.recorder import Recorder
from runledger.shares import share
from runledger.sure import only_ledger, run_times, sure_runs, whoever
from runledger.texts import read, read_ledger, show, show_ledger
from runledger.ways import is_recoupled, way
from tests import webs

TIMES = [5, 1, 1, 2, 3, 1, 4, 1]


def steps_of(call):
    """How many lines of the program are gone through."""
    counted = 0

    def trace(frame, event, _):
        nonlocal counted
        counted += event == "line"
        return trace

    before = sys.gettrace()
    sys.settrace(trace)
    try:
        call()
    finally:
        sys.settrace(before)
    return counted


def calls(many):
    """Calls on three choices, in which each of the numbers is made so many times greater."""
    web = webs.chain()
    runs = list(web.all_runs())
    entries = [(run, times * many) for run, times in zip(runs, TIMES)]
    ledger = Ledger(web, entries)
    counts, part = ledger.counts(), Part.through(web, [1, 8])
    low, high = least(counts, part)[0], greatest(counts, part)[0]
    assert low + many <= high
    other = ledger.exchanged(runs[0], runs[7], 3, times=many)
    seen = Ledger(web, [(runs[0], 2 * many)])
    cover = Cover.watching(web, [3])
    recorder = Recorder(web, watched=[3])
    for run, times in entries:
        recorder.enter(run, times=times)
    recorder.note(runs[3], times=many)
    recorder.cut()
    recorder.enter(runs[2], times=many)
    return {
        "entries": lambda: Ledger(web, entries), "counts": ledger.counts, "kept": lambda: ledger.kept(part),
        "exchanged": lambda: ledger.exchanged(runs[0], runs[7], 3, times=many), "some": lambda: some_ledger(counts),
        "sum": lambda: counts + 7 * counts, "ledgers": lambda: 3 * ledger + other,
        "greatest": lambda: greatest(counts, part), "least": lambda: least(counts, part),
        "with least": lambda: ledger_with(counts, part, low), "with more": lambda: ledger_with(counts, part, low + many),
        "known": lambda: known_numbers(counts, seen, part), "times": lambda: run_times(counts, runs[5]),
        "sure": lambda: sure_runs(counts), "only": lambda: only_ledger(counts),
        "open": lambda: whoever(counts, 1, 8), "all": lambda: whoever(counts, 3, 6),
        "recoupled": lambda: is_recoupled(ledger, other, 3), "way": lambda: way(ledger, other),
        "share": lambda: share(counts, part), "new numbers": lambda: new_numbers(counts, 3, [(1, 3)]),
        "lift": lambda: cover.lift_ledger(ledger), "sums": lambda: cover.sums(recorder.fine_counts()),
        "enter": lambda: recorder.enter(runs[1], times=many), "note": lambda: recorder.note(runs[1], times=many),
        "recorder known": lambda: recorder.known(part), "by pieces": lambda: recorder.known_by_pieces(part),
        "example": lambda: recorder.example(part, recorder.known(part)[0]),
        "example by pieces": lambda: recorder.example_by_pieces(part, recorder.known_by_pieces(part)[1]),
        "show": lambda: show(counts), "read": lambda: read(show(counts)),
        "read ledger": lambda: read_ledger(web, show_ledger(ledger)),
    }


class StepsTest(unittest.TestCase):
    def test_steps_are_as_many_for_greater_numbers(self):
        few, more = calls(1), calls(10 ** 28)
        for name, call in few.items():
            with self.subTest(name):
                steps = steps_of(call)
                self.assertGreater(steps, 0)
                self.assertEqual(steps_of(more[name]), steps)

    def test_unlike_great_numbers(self):
        """Numbers without any order take about as many steps as small ones."""
        web = webs.ladder()
        part, large = webs.many_parts(web)[1], webs.big_counts(web)
        small = Ledger(web, [(run, 1 + times % 3) for run, times in some_ledger(large).entries]).counts()
        for name, call in [("least", least), ("greatest", greatest), ("share", share)]:
            with self.subTest(name):
                self.assertLess(steps_of(lambda: call(large, part)), 4 * steps_of(lambda: call(small, part)))


if __name__ == "__main__":
    unittest.main()
