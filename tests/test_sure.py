"""Points 3, 17, 18, 19, 36 and 37 and the interface of runledger/sure.py."""

import inspect
import unittest

from runledger import sure
from runledger.bounds import is_ceiling
from runledger.counts import Counts
from runledger.errors import NoItem, NoRun
from runledger.ledgers import Ledger
from runledger.routines import Routine
from runledger.sure import only_ledger, run_times, sure_runs, whoever
from tests import search, webs
from tests.webs import BIG


def double_counts():
    return Counts(webs.double(), list(zip(webs.DOUBLE_JUMPS, [6, 4, 6, 4, 7, 3, 7, 3])))


def shows_one(counts, blocks):
    """Whether the list of blocks shows, by the three conditions of point 18, that only one ledger fits."""
    live = [jump for jump, _ in counts.pairs]
    joins = [v for v in range(counts.routine.blocks) if len([1 for _, w in live if w == v]) > 1]
    return (all(block in blocks for block in joins)
            and all(v in blocks for u, v in live if u in blocks)
            and all(len([1 for w, _ in live if w == block]) < 2 for block in blocks))


def kept_by(run, a, b, barred):
    """Whether the run has the item a, and has, or (if it is barred) has not, the item b."""
    return webs.has(run, a) and webs.has(run, b) != barred


class AnswersTest(unittest.TestCase):
    """What each answer must be like, and the search that it is held against."""

    def check_times(self, counts, fitting):
        found = []
        for run in webs.slow_runs(counts.routine.blocks, counts.routine.jumps):
            times = [dict(entries).get(run, 0) for entries in fitting]
            told = run_times(counts, run)
            self.assertIsInstance(told, tuple)
            self.assertEqual(told, (min(times), max(times)))
            found.extend([(run, min(times))] if min(times) else [])
        self.assertEqual(sure_runs(counts), found)
        self.assertLessEqual(len(found), search.most_entries(counts))

    def check_one(self, counts, told):
        kind, ledger, blocks = told
        self.assertEqual(kind, "one")
        self.assertTrue(ledger.counts() == counts)
        self.assertIsInstance(blocks, list)
        self.assertEqual(blocks, sorted(set(blocks)))
        self.assertTrue(all(0 <= block < counts.routine.blocks for block in blocks))
        self.assertTrue(shows_one(counts, blocks))

    def check_more(self, counts, told):
        kind, ledger, run, other, block = told
        self.assertEqual(kind, "more")
        self.assertTrue(ledger.counts() == counts)
        self.assertTrue(ledger[run] > 0 and ledger[other] > 0)
        self.assertTrue(block in run and block in other)
        after = ledger.exchanged(run, other, block)
        self.assertTrue(after.counts() == counts)
        self.assertFalse(after == ledger)

    def check_only(self, counts, fitting):
        told = only_ledger(counts)
        self.assertIsInstance(told, tuple)
        if len(fitting) == 1:
            self.check_one(counts, told)
            self.assertEqual(told[1].entries, fitting[0])
        else:
            self.check_more(counts, told)
            self.assertIn(told[1].entries, fitting)
            self.assertIn(told[1].exchanged(*told[2:]).entries, fitting)

    def check_ceiling(self, counts, ceiling, a, b, barred):
        """The ceiling has the weight 0 for the part through both items, or through a with b barred."""
        runs = webs.slow_runs(counts.routine.blocks, counts.routine.jumps)
        jumps = {jump for run in runs if kept_by(run, a, b, barred) for jump in webs.pairs_of(run)}
        self.assertTrue(is_ceiling(counts.routine, ceiling))
        self.assertEqual(search.slow_ceiling_weight(counts, jumps, ceiling), 0)

    def check_ledgers(self, counts, first, second, a, b):
        for ledger, barred in [(first, False), (second, True)]:
            self.assertTrue(ledger.counts() == counts)
            self.assertTrue(any(kept_by(run, a, b, barred) for run, _ in ledger.entries))

    def check_whoever(self, counts, fitting, a, b):
        seen = {run for entries in fitting for run, _ in entries}
        told = whoever(counts, a, b)
        self.assertIsInstance(told, tuple)
        if not any(kept_by(run, a, b, True) for run in seen):
            self.assertEqual((told[0], len(told)), ("all", 2))
            self.check_ceiling(counts, told[1], a, b, True)
        elif not any(kept_by(run, a, b, False) for run in seen):
            self.assertEqual((told[0], len(told)), ("none", 2))
            self.check_ceiling(counts, told[1], a, b, False)
        else:
            self.assertEqual((told[0], len(told)), ("open", 3))
            self.check_ledgers(counts, *told[1:], a, b)

    def check_all(self, web, most):
        things = [*range(web.blocks), *web.jumps]
        for counts in search.few_counts(web, most):
            fitting = [sorted(entries) for entries in search.fitting(counts)]
            self.check_times(counts, fitting)
            self.check_only(counts, fitting)
            for a in things:
                for b in things:
                    self.check_whoever(counts, fitting, a, b)


class AllLedgersTest(AnswersTest):
    def test_all_small_routines(self):
        for blocks in [2, 3, 4]:
            for web in webs.all_webs(blocks):
                self.check_all(web, 2)

    def test_more_runs(self):
        self.check_all(webs.full_web(4), 4)
        self.check_all(webs.double(), 4)

    def test_larger_routines(self):
        self.check_all(webs.full_web(5), 2)
        self.check_all(webs.web_with_dead_ends(), 3)

    def test_three_choices(self):
        web = webs.chain()
        runs = list(web.all_runs())
        for times in [[1, 0, 0, 1, 0, 1, 1, 0], [3, 1, 0, 0, 0, 0, 0, 2], [2, 2, 0, 1, 0, 0, 0, 0], [0, 0, 0, 5] * 2]:
            counts = Ledger(web, [(run, often) for run, often in zip(runs, times) if often]).counts()
            fitting = [sorted(entries) for entries in search.fitting(counts)]
            self.check_times(counts, fitting)
            self.check_only(counts, fitting)
            for a in [1, 4, 9, (0, 2), (3, 5), (4, 6)]:
                for b in [2, 3, 7, (1, 3), (5, 6), (6, 8)]:
                    self.check_whoever(counts, fitting, a, b)

    def test_short_ways_across_longer_ones(self):
        counts = webs.crossing([2])
        fitting = [sorted(entries) for entries in search.fitting(counts)]
        self.check_times(counts, fitting)
        self.check_only(counts, fitting)
        for a in [1, 2, (2, 6), (5, 9)]:
            for b in [5, 8, (1, 2), (3, 4)]:
                self.check_whoever(counts, fitting, a, b)


class EdgesTest(AnswersTest):
    def test_total_0(self):
        for web in [webs.diamond(), webs.web_with_dead_ends(), webs.ladder(), *webs.bare_webs()]:
            counts = Counts(web, [])
            self.assertEqual(sure_runs(counts), [])
            self.check_one(counts, only_ledger(counts))
            self.assertEqual(only_ledger(counts)[1].entries, [])
            for a in [0, 1, web.blocks - 1]:
                told = whoever(counts, a, 0)
                self.assertEqual(told[0], "all")
                self.assertTrue(is_ceiling(web, told[1]))
        self.assertEqual(run_times(Counts(webs.diamond(), []), (0, 1, 3)), (0, 0))

    def test_one_run_alone(self):
        web, run = webs.ladder(), tuple(range(40))
        for often in [1, BIG]:
            counts = Ledger(web, [(run, often)]).counts() * 9
            self.assertEqual(run_times(counts, run), (9 * often, 9 * often))
            self.assertEqual(run_times(counts, (0, 1, *range(3, 40))), (0, 0))
            self.assertEqual(sure_runs(counts), [(run, 9 * often)])
            self.check_one(counts, only_ledger(counts))
            self.assertEqual(only_ledger(counts)[1].entries, [(run, 9 * often)])
            self.assertEqual([whoever(counts, 5, 7)[0], whoever(counts, (5, 6), (5, 7))[0]], ["all", "none"])

    def test_an_item_asked_about_itself(self):
        for item in [*range(7), *webs.DOUBLE_JUMPS]:
            kind, ceiling = whoever(double_counts(), item, item)
            self.assertEqual(kind, "all")
            self.check_ceiling(double_counts(), ceiling, item, item, True)

    def test_blocks_and_jumps_that_nothing_passes(self):
        web = webs.web_with_dead_ends()
        counts = Counts(web, [((0, 1), 4), ((1, 5), 4)])
        for item in [2, 3, 4, (0, 2), (0, 4), (1, 2), (3, 4), (3, 5)]:
            for b in [0, 1, 3, 4, (0, 1), (3, 4)]:
                self.assertEqual(whoever(counts, item, b)[0], "all")
            self.assertEqual(whoever(counts, 1, item)[0], "none")

    def test_not_all_comes_before_none(self):
        """An item that no run passes: all of these runs pass any other one, and none does."""
        counts = Counts(webs.double(), [((0, 1), 1), ((1, 3), 1), ((3, 4), 1), ((4, 6), 1)])
        self.assertEqual([whoever(counts, 2, 4)[0], whoever(counts, 2, 5)[0]], ["all", "all"])
        self.assertEqual([whoever(counts, 4, 2)[0], whoever(counts, 4, 1)[0]], ["none", "all"])

    def test_one_ledger_with_several_runs(self):
        web = webs.double()
        counts = Ledger(web, [((0, 1, 3, 4, 6), 3), ((0, 2, 3, 4, 6), BIG)]).counts()
        kind, ledger, blocks = only_ledger(counts)
        self.assertEqual((kind, ledger.entries), ("one", [((0, 1, 3, 4, 6), 3), ((0, 2, 3, 4, 6), BIG)]))
        self.assertTrue(shows_one(counts, blocks))
        self.assertEqual(sure_runs(counts), ledger.entries)

    def test_sums_beyond_what_can_be_named(self):
        counts = double_counts()
        for _ in range(40):
            counts = 9 * counts
        many = 9 ** 40
        self.assertEqual(run_times(counts, (0, 1, 3, 5, 6)), (0, 3 * many))
        self.assertEqual(sure_runs(counts), [((0, 1, 3, 4, 6), 3 * many), ((0, 2, 3, 4, 6), many)])
        self.check_more(counts, only_ledger(counts))
        told = whoever(counts, 1, 4)
        self.assertEqual(told[0], "open")
        self.check_ledgers(counts, *told[1:], 1, 4)

    def test_as_many_sure_runs_as_there_can_be(self):
        """All runs of a ledger of the J - B + 2 that are allowed are sure if nothing joins and goes apart again."""
        web = Routine(40, [(0, 39), *[(0, v) for v in range(1, 39)], *[(v, 39) for v in range(1, 39)]])
        counts = Ledger(web, [(run, BIG - at) for at, run in enumerate(web.all_runs())]).counts()
        self.assertEqual(len(sure_runs(counts)), 39)
        self.assertEqual(search.most_entries(counts), 39)
        self.check_one(counts, only_ledger(counts))


class LargeTest(AnswersTest):
    def test_billions_of_runs(self):
        with webs.within(30):
            for web in [webs.ladder(), webs.wide_ladder()]:
                for counts in [webs.big_counts(web), 9 * webs.big_counts(web)]:
                    self.check_large(web, counts)

    def check_large(self, web, counts):
        told = sure_runs(counts)
        self.assertLessEqual(len(told), search.most_entries(counts))
        for run, times in told:
            self.assertEqual(run_times(counts, run)[0], times)
            self.assertGreater(times, 0)
        self.check_more(counts, only_ledger(counts))
        low, high = run_times(counts, tuple(range(40)) if (38, 39) in web else tuple([0, *range(5, 40, 17)]))
        self.assertTrue(0 <= low <= high)
        kinds = []
        for a, b in [(7, 20), (20, 7), ((7, 8), 21), (0, 13), (39, 0), (5, 6), ((0, 1), (0, 2)), (30, (33, 35))]:
            if isinstance(b, tuple) and b not in web:
                b = 33
            kind, *shown = whoever(counts, a, b)
            kinds.append(kind)
            if kind == "open":
                self.check_ledgers(counts, *shown, a, b)
        self.assertLessEqual({"open", "all", "none"}, set(kinds))

    def test_billions_of_runs_of_which_one_was_made(self):
        with webs.within(10):
            counts = Ledger(webs.ladder_to_nowhere(), [((0, 39), BIG)]).counts()
            self.assertEqual(sure_runs(counts), [((0, 39), BIG)])
            self.check_one(counts, only_ledger(counts))
            self.assertEqual([whoever(counts, 0, 39)[0], whoever(counts, 0, 20)[0]], ["all", "none"])


class WrongArgumentsTest(unittest.TestCase):
    def test_no_run(self):
        for value in [*webs.odd_values(), (0, 3), (0, 1, 2, 3), [0, 1, 3], 0]:
            with self.subTest(value), self.assertRaises(NoRun) as caught:
                run_times(Counts(webs.diamond(), []), value)
            self.assertIs(caught.exception.run, value)

    def test_no_item(self):
        counts = Ledger(webs.diamond(), [((0, 1, 3), 1)]).counts()
        values = [value for value in webs.odd_values() if value not in [0, 1, 2, 3, *webs.DIAMOND_JUMPS]]
        for value in [*values, 4, -1, (1, 2), (0, 3), (0, 1, 3), [0, 1], True, False, (0, True)]:
            for a, b in [(value, 1), (1, value), (value, "later"), ((0, 1), value), (value, value)]:
                with self.subTest(value), self.assertRaises(NoItem) as caught:
                    whoever(counts, a, b)
                self.assertIs(caught.exception.item, value)

    def test_errors_change_nothing(self):
        counts = double_counts()
        self.assertRaises(NoRun, run_times, counts, (0, 6))
        self.assertRaises(NoItem, whoever, counts, 1, 7)
        self.assertTrue(counts == double_counts())


class SameAnswersTest(unittest.TestCase):
    def told(self, counts):
        """All that is told, in lists and tuples."""
        runs = list(counts.routine.all_runs())
        kind, ledger, *rest = only_ledger(counts)
        whoevers = [[thing.entries if isinstance(thing, Ledger) else thing for thing in whoever(counts, a, b)]
                    for a in range(counts.routine.blocks) for b in [1, 3, *counts.routine.jumps]]
        return [[run_times(counts, run) for run in runs], sure_runs(counts), kind, ledger.entries, rest, whoevers]

    def test_equal_things_made_otherwise(self):
        for web, most in [(webs.full_web(4), 3), (webs.double(), 3)]:
            for counts in search.few_counts(web, most)[::4]:
                told = self.told(counts)
                turned = Routine(web.blocks, web.jumps[::-1])
                for equal in [Counts(turned, counts.pairs[::-1]), *search.made_otherwise(counts), counts]:
                    self.assertEqual(self.told(equal), told)

    def test_told_lists_changed_later(self):
        counts = double_counts()
        sure_runs(counts).clear()
        whoever(counts, 4, 3)[1].append("x")
        whoever(counts, 1, 4)[1].entries.clear()
        only_ledger(counts)[1].entries.clear()
        single = Ledger(webs.double(), [((0, 1, 3, 4, 6), 1)]).counts()
        only_ledger(single)[2].append("x")
        self.assertEqual(sure_runs(counts), [((0, 1, 3, 4, 6), 3), ((0, 2, 3, 4, 6), 1)])
        self.assertTrue(is_ceiling(webs.double(), whoever(counts, 4, 3)[1]))
        self.assertTrue(shows_one(single, only_ledger(single)[2]))
        self.assertTrue(only_ledger(counts)[1].counts() == counts)
        self.assertIsNot(sure_runs(counts), sure_runs(counts))


class InterfaceTest(unittest.TestCase):
    def test_arguments_by_name(self):
        counts = double_counts()
        self.assertEqual(run_times(run=(0, 1, 3, 5, 6), counts=counts), (0, 3))
        self.assertEqual(sure_runs(counts=counts), [((0, 1, 3, 4, 6), 3), ((0, 2, 3, 4, 6), 1)])
        self.assertEqual(only_ledger(counts=counts)[0], "more")
        self.assertEqual([whoever(b=3, a=4, counts=counts)[0], whoever(b=2, counts=counts, a=1)[0]], ["all", "none"])

    def test_interface(self):
        for name in ["run_times", "sure_runs", "only_ledger", "whoever"]:
            self.assertTrue(inspect.isfunction(getattr(sure, name)))
            self.assertEqual(getattr(sure, name).__module__, sure.__name__)


if __name__ == "__main__":
    unittest.main()
