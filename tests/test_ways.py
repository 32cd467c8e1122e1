"""Points 3, 20, 21, 36 and 37 and the interface of runledger/ways.py."""

import inspect
import unittest

from runledger import ways
from runledger.counts import Counts
from runledger.errors import NotInner, OtherCounts, OtherRoutine
from runledger.ledgers import Ledger, some_ledger
from runledger.routines import Routine
from runledger.ways import is_recoupled, way
from tests import search, webs
from tests.webs import BIG

FIRST = [((0, 1, 3, 4, 6), 6), ((0, 2, 3, 4, 6), 1), ((0, 2, 3, 5, 6), 3)]
SECOND = [((0, 1, 3, 4, 6), 3), ((0, 1, 3, 5, 6), 3), ((0, 2, 3, 4, 6), 4)]


def one_by_one(entries):
    """Each run as often as it is there."""
    return [run for run, times in entries for _ in range(times)]


def slow_recoupled(first, second, block):
    """Point 20, run by run: sorted lists of whole runs, of beginnings and of rests."""
    def lists(entries):
        runs = one_by_one(entries)
        passing = [run for run in runs if block in run]
        return [sorted(run for run in runs if block not in run),
                sorted([b for b in run if b <= block] for run in passing),
                sorted([b for b in run if b >= block] for run in passing)]

    return lists(first) == lists(second)


def recoupled_by_times(first, second, block):
    """Point 20, with the times added up."""
    def added(entries):
        told = {}
        for run, times in entries:
            names = [("past", run)]
            if block in run:
                names = [("begun", run[:run.index(block)]), ("rest", run[run.index(block):])]
            for name in names:
                told[name] = told.get(name, 0) + times
        return told

    return added(first) == added(second)


def fitting_by_counts(web, most):
    """All lists of (run, times) of few runs, those with the same counts together."""
    together = {}
    for entries in search.few_runs(web, most):
        together.setdefault(tuple(sorted(search.jump_counts(entries).items())), []).append(entries)
    return list(together.values())


class RecoupledTest(unittest.TestCase):
    def check_pairs(self, web, known):
        for one in known:
            for other in known:
                for block in range(1, web.blocks - 1):
                    told = is_recoupled(Ledger(web, one), Ledger(web, other), block)
                    self.assertIs(told, slow_recoupled(one, other, block))
                    if told:
                        self.assertEqual(search.jump_counts(one), search.jump_counts(other))

    def test_all_pairs_of_few_runs(self):
        for web, most in [(webs.full_web(4), 2), (webs.diamond(), 3), (webs.bare_webs()[2], 2)]:
            self.check_pairs(web, list(search.few_runs(web, most)))

    def test_pairs_with_equal_counts(self):
        for web, most in [(webs.double(), 4), (webs.full_web(5), 3), (webs.full_web(4), 4)]:
            for known in fitting_by_counts(web, most):
                self.check_pairs(web, known)

    def test_an_exchange_recouples(self):
        web = webs.full_web(5)
        for entries in search.few_runs(web, 2):
            ledger = Ledger(web, entries)
            for first, _ in entries:
                for second, _ in entries:
                    for block in [block for block in first[1:-1] if block in second]:
                        self.assertTrue(is_recoupled(ledger, ledger.exchanged(first, second, block), block))

    def test_times_count(self):
        web = webs.double()
        first = Ledger(web, [((0, 1, 3, 4, 6), BIG), ((0, 2, 3, 5, 6), BIG)]) * 9
        second = Ledger(web, [((0, 1, 3, 5, 6), BIG), ((0, 2, 3, 4, 6), BIG)]) * 9
        self.assertIs(is_recoupled(first, second, 3), True)
        for block in [1, 2, 4, 5]:
            self.assertIs(is_recoupled(first, second, block), False)
        more = Ledger(web, [((0, 1, 3, 4, 6), 1)])
        for block in range(1, 6):
            self.assertIs(is_recoupled(first, first + more, block), False)
            self.assertIs(is_recoupled(first + more, first, block), False)
            self.assertIs(is_recoupled(first, 2 * first, block), False)
            self.assertIs(is_recoupled(first, first, block), True)

    def test_empty_ledgers(self):
        for web in [webs.diamond(), webs.ladder(), webs.web_with_dead_ends()]:
            for block in range(1, web.blocks - 1):
                self.assertIs(is_recoupled(Ledger(web, []), Ledger(web, []), block), True)
        self.assertIs(is_recoupled(Ledger(webs.diamond(), []), Ledger(webs.diamond(), [((0, 1, 3), 1)]), 1), False)

    def test_ledgers_of_unequal_routines(self):
        first = Ledger(webs.diamond(), [])
        for web in [Routine(4, webs.DIAMOND_JUMPS[1:]), Routine(5, webs.DIAMOND_JUMPS), webs.double()]:
            for block in [1, 2]:
                self.assertIs(is_recoupled(first, Ledger(web, []), block), False)
                self.assertIs(is_recoupled(Ledger(web, []), first, block), False)
        turned = Ledger(Routine(4, webs.DIAMOND_JUMPS[::-1]), [])
        self.assertIs(is_recoupled(first, turned, 1), True)

    def test_no_inner_block(self):
        values = [value for value in webs.odd_values() if value not in [1, 2]]
        first = Ledger(webs.diamond(), [])
        for value in [*values, 0, 3, 4, 5, -1, True, False, (1,), [1], "1"]:
            for second in [first, Ledger(webs.double(), []), Ledger(webs.diamond(), [((0, 1, 3), 1)])]:
                with self.subTest(value), self.assertRaises(NotInner) as caught:
                    is_recoupled(first, second, value)
                self.assertIs(caught.exception.block, value)

    def test_the_routine_of_the_first_ledger_tells_what_is_inner(self):
        self.assertIs(is_recoupled(Ledger(webs.double(), []), Ledger(webs.diamond(), []), 5), False)
        self.assertRaises(NotInner, is_recoupled, Ledger(webs.diamond(), []), Ledger(webs.double(), []), 5)
        self.assertRaises(NotInner, is_recoupled, Ledger(Routine(2, [(0, 1)]), []), Ledger(webs.double(), []), 1)


class WayTest(unittest.TestCase):
    def check(self, first, second, recoupled=slow_recoupled):
        told = way(first, second)
        web = first.routine
        self.assertIsInstance(told, list)
        self.assertEqual(len(told), web.blocks - 1)
        self.assertTrue(told[0] == first and told[-1] == second)
        for block in range(1, web.blocks - 1):
            before, after = told[block - 1].entries, told[block].entries
            self.assertTrue(recoupled(before, after, block))
            self.assertTrue(is_recoupled(told[block - 1], told[block], block))
        for ledger in told:
            self.assertIsInstance(ledger, Ledger)
            self.assertEqual(ledger.routine, web)
            self.assertLessEqual(len(ledger.entries), len(first.entries) + len(second.entries))
            self.assertTrue(ledger.counts() == first.counts())
            self.assertEqual(ledger.entries, sorted(ledger.entries))
            self.assertTrue(all(web.is_run(run) and times > 0 for run, times in ledger.entries))

    def check_routine(self, web, most):
        for known in fitting_by_counts(web, most):
            for one in known:
                for other in known:
                    self.check(Ledger(web, one), Ledger(web, other))

    def test_all_small_routines(self):
        for blocks in [2, 3, 4]:
            for web in webs.all_webs(blocks):
                self.check_routine(web, 2)

    def test_more_runs(self):
        self.check_routine(webs.full_web(4), 4)
        self.check_routine(webs.double(), 4)
        self.check_routine(webs.web_with_dead_ends(), 3)

    def test_larger_routines(self):
        self.check_routine(webs.full_web(5), 3)
        self.check_routine(webs.chain(), 2)

    def test_three_choices(self):
        web = webs.chain()
        counts = Ledger(web, [(run, 2 - at // 4) for at, run in enumerate(web.all_runs())][:6]).counts()
        fitting = list(search.fitting(counts))
        for one in fitting[::29]:
            for other in fitting[::31]:
                self.check(Ledger(web, one), Ledger(web, other))

    def test_equal_and_empty_ledgers(self):
        for web in [webs.double(), webs.ladder(), webs.web_with_dead_ends(), *webs.bare_webs()]:
            self.check(Ledger(web, []), Ledger(web, []))
            for run in list(web.all_runs())[:3] if web.blocks < 40 else [tuple(range(40))]:
                self.check(Ledger(web, [(run, 2)]), Ledger(web, [(run, 2)]))
        self.check(Ledger(webs.double(), FIRST), Ledger(webs.double(), FIRST))

    def test_many_times(self):
        web = webs.double()
        first, second = Ledger(web, FIRST) * 9, Ledger(web, SECOND) * 9
        for _ in range(40):
            first, second = 9 * first, 9 * second
        self.check(first, second, recoupled_by_times)
        self.check(second, first, recoupled_by_times)

    def test_ledgers_with_many_entries(self):
        with webs.within(30):
            for web in [webs.ladder(), webs.wide_ladder()]:
                first = many_entries(web, 500)
                self.assertEqual(len(first), 500)
                self.check(first, turned_rests(first), recoupled_by_times)
                self.check(turned_rests(first), first, recoupled_by_times)
                self.check(first, some_ledger(first.counts()), recoupled_by_times)

    def test_other_routine_comes_first(self):
        first = Ledger(webs.double(), FIRST)
        for web in [Routine(7, webs.DOUBLE_JUMPS[1:]), Routine(7, [*webs.DOUBLE_JUMPS, (0, 6)]), webs.diamond()]:
            self.assertRaises(OtherRoutine, way, first, Ledger(web, []))
            self.assertRaises(OtherRoutine, way, Ledger(web, []), first)
        turned = Ledger(Routine(7, webs.DOUBLE_JUMPS[::-1]), SECOND)
        self.check(first, turned)

    def test_other_counts(self):
        web = webs.full_web(4)
        known = list(search.few_runs(web, 2))
        for one in known:
            for other in known:
                before, after = search.jump_counts(one), search.jump_counts(other)
                unlike = [jump for jump in web.jumps if before.get(jump, 0) != after.get(jump, 0)]
                if unlike:
                    with self.assertRaises(OtherCounts) as caught:
                        way(Ledger(web, one), Ledger(web, other))
                    self.assertEqual(caught.exception.jump, unlike[0])

    def test_equal_things_made_otherwise(self):
        web, turned = webs.double(), Routine(7, webs.DOUBLE_JUMPS[::-1])
        first, second = Ledger(web, FIRST), Ledger(web, SECOND)
        told = [ledger.entries for ledger in way(first, second)]
        split = [(run, 1) for run, times in FIRST for _ in range(times)]
        for one in [Ledger(turned, FIRST[::-1]), Ledger(web, split[::-1]), first + 0 * first, first]:
            for other in [Ledger(turned, SECOND[::-1]), 0 * second + second, second]:
                self.assertEqual([ledger.entries for ledger in way(one, other)], told)

    def test_told_lists_changed_later(self):
        first, second = Ledger(webs.double(), FIRST), Ledger(webs.double(), SECOND)
        told = way(first, second)
        for ledger in told:
            ledger.entries.clear()
        told.clear()
        self.assertEqual((first.entries, second.entries), (FIRST, SECOND))
        self.check(first, second)

    def test_errors_change_nothing(self):
        first, second = Ledger(webs.double(), FIRST), Ledger(webs.double(), SECOND)
        self.assertRaises(NotInner, is_recoupled, first, second, 6)
        self.assertRaises(OtherCounts, way, first, 2 * second)
        self.assertRaises(OtherRoutine, way, first, Ledger(webs.diamond(), []))
        self.assertEqual((first.entries, second.entries), (FIRST, SECOND))


def many_entries(web, many):
    """A ledger with so many different runs."""
    times = {}
    at = 0
    while len(times) < many:
        run, left = [0], at
        while run[-1] != web.blocks - 1:
            outs = web.outs(run[-1])
            left, turn = divmod(left, len(outs))
            run.append(outs[(turn + at % 7 * (left == 0)) % len(outs)][1])
        times.setdefault(tuple(run), BIG - at ** 3)
        at += 1
    return Ledger(web, list(times.items()))


def turned_rests(ledger):
    """The ledger after many exchanges, with at most as many entries as may be handed in."""
    for run, _ in ledger.entries[::5]:
        others = [other for other, _ in ledger.entries if run[17:18] and run[8] in other and other > run]
        if others and ledger[run]:
            amount = min(ledger[run], ledger[others[-1]])
            ledger = ledger.exchanged(run, others[-1], run[8], times=amount)
    return ledger


class InterfaceTest(unittest.TestCase):
    def test_arguments_by_name(self):
        first, second = Ledger(webs.double(), FIRST), Ledger(webs.double(), SECOND)
        self.assertEqual([is_recoupled(block=3, second=second, first=first), is_recoupled(first, second, block=1)],
                         [True, False])
        self.assertEqual(len(way(second=second, first=first)), 6)
        self.assertTrue(way(second=second, first=first)[0] == first)

    def test_interface(self):
        for name in ["is_recoupled", "way"]:
            self.assertTrue(inspect.isfunction(getattr(ways, name)))
            self.assertEqual(getattr(ways, name).__module__, ways.__name__)

    def test_counts_are_equal_in_the_example(self):
        pairs = list(zip(webs.DOUBLE_JUMPS, [6, 4, 6, 4, 7, 3, 7, 3]))
        for entries in [FIRST, SECOND]:
            self.assertTrue(Ledger(webs.double(), entries).counts() == Counts(webs.double(), pairs))


if __name__ == "__main__":
    unittest.main()
