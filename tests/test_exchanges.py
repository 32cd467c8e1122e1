"""Points 10, 11, 36 and 37: `exchanged` and `some_ledger` in runledger/ledgers.py."""

import unittest

from runledger.counts import Counts
from runledger.errors import NoRun, NotEnough, NotPassed
from runledger.ledgers import Ledger, some_ledger
from runledger.routines import Routine
from tests import search, webs
from tests.webs import BIG

# The four runs of the double diamond, by the blocks that they choose.
FOURTEEN, FIFTEEN, TWENTYFOUR, TWENTYFIVE = (0, 1, 3, 4, 6), (0, 1, 3, 5, 6), (0, 2, 3, 4, 6), (0, 2, 3, 5, 6)


def slow_exchanged(entries, first, second, block, times):
    """The entries after each of both runs is taken out so often and each that they become is put in so often."""
    left = dict(entries)
    for run in [first, second]:
        left[run] = left[run] - times
    one = tuple([*[b for b in first if b <= block], *[b for b in second if b > block]])
    other = tuple([*[b for b in second if b <= block], *[b for b in first if b > block]])
    for run in [one, other]:
        left[run] = left.get(run, 0) + times
    return sorted((run, often) for run, often in left.items() if often)


class ExchangeTest(unittest.TestCase):
    def test_all_exchanges_of_few_runs(self):
        for web, most in [(webs.full_web(4), 4), (webs.double(), 4), (webs.full_web(5), 2)]:
            for entries in search.few_runs(web, most):
                ledger = Ledger(web, entries)
                self.check_exchanges(ledger, entries)
                self.assertEqual(ledger.entries, entries)

    def check_exchanges(self, ledger, entries):
        for first, often in entries:
            for second, more in entries:
                for block in [block for block in first if block in second]:
                    for times in range(1, min(often, more) + 1):
                        after = ledger.exchanged(first, second, block, times=times)
                        self.assertTrue(after.counts() == ledger.counts())
                        if first == second:
                            self.assertEqual(after.entries, entries)
                        else:
                            self.assertEqual(after.entries, slow_exchanged(entries, first, second, block, times))

    def test_once_if_times_are_not_named(self):
        ledger = Ledger(webs.double(), [(FOURTEEN, 3), (TWENTYFIVE, 2)])
        after = ledger.exchanged(FOURTEEN, TWENTYFIVE, 3)
        self.assertEqual(after.entries, [(FOURTEEN, 2), (FIFTEEN, 1), (TWENTYFOUR, 1), (TWENTYFIVE, 1)])
        self.assertIsInstance(after, Ledger)

    def test_back_again(self):
        ledger = Ledger(webs.double(), [(FOURTEEN, 3), (TWENTYFIVE, 3), (TWENTYFOUR, 1)])
        after = ledger.exchanged(FOURTEEN, TWENTYFIVE, 3, times=3)
        self.assertEqual(after.entries, [(FIFTEEN, 3), (TWENTYFOUR, 4)])
        self.assertTrue(after.exchanged(FIFTEEN, TWENTYFOUR, 3, times=3) == ledger)

    def test_at_the_ends_and_of_equal_runs_nothing_changes(self):
        ledger = Ledger(webs.double(), [(FOURTEEN, 3), (TWENTYFIVE, 2)])
        for block in [0, 6]:
            self.assertTrue(ledger.exchanged(FOURTEEN, TWENTYFIVE, block, times=2) == ledger)
        for block in FOURTEEN:
            self.assertTrue(ledger.exchanged(FOURTEEN, FOURTEEN, block, times=3) == ledger)
        with self.assertRaises(NotEnough) as caught:
            ledger.exchanged(FOURTEEN, FOURTEEN, 1, times=4)
        self.assertEqual(caught.exception.run, FOURTEEN)

    def test_many_times(self):
        ledger = Ledger(webs.double(), [(FOURTEEN, BIG), (TWENTYFIVE, BIG - 1)]) * 9
        after = ledger.exchanged(FOURTEEN, TWENTYFIVE, 3, times=9 * BIG - 9)
        self.assertEqual(after.entries, [(FOURTEEN, 9), (FIFTEEN, 9 * BIG - 9), (TWENTYFOUR, 9 * BIG - 9)])

    def test_no_run(self):
        ledger = Ledger(webs.diamond(), [((0, 1, 3), 1)])
        for value in [*webs.odd_values(), (0, 3), (0, 1, 2, 3), [0, 1, 3], 0]:
            for first, second in [(value, "later"), ((0, 1, 3), value), (value, (0, 1, 3))]:
                with self.subTest(value), self.assertRaises(NoRun) as caught:
                    ledger.exchanged(first, second, 99, times=99)
                self.assertIs(caught.exception.run, value)

    def test_not_passed(self):
        ledger = Ledger(webs.double(), [(FOURTEEN, 1)])
        for value in [*webs.odd_values(), 1, 2, 4, 5, 7, -1, [3], (3,), "3"]:
            with self.subTest(value), self.assertRaises(NotPassed) as caught:
                ledger.exchanged(FOURTEEN, TWENTYFIVE, value, times=99)
            self.assertIs(caught.exception.block, value)
        for block in [1, 2, True]:
            self.assertRaises(NotPassed, ledger.exchanged, FIFTEEN, TWENTYFIVE, block)
            self.assertRaises(NotPassed, ledger.exchanged, TWENTYFIVE, FIFTEEN, block)
        self.assertRaises(NotPassed, ledger.exchanged, FOURTEEN, FOURTEEN, 2)
        self.assertRaises(NotPassed, ledger.exchanged, FOURTEEN, FOURTEEN, True)

    def test_not_enough(self):
        ledger = Ledger(webs.double(), [(FOURTEEN, 3), (TWENTYFIVE, 2)])
        cases = [(FOURTEEN, TWENTYFIVE, 3, TWENTYFIVE), (TWENTYFIVE, FOURTEEN, 3, TWENTYFIVE),
                 (FOURTEEN, TWENTYFIVE, 4, FOURTEEN), (TWENTYFIVE, FOURTEEN, 4, TWENTYFIVE),
                 (FIFTEEN, TWENTYFOUR, 1, FIFTEEN), (FOURTEEN, TWENTYFOUR, 1, TWENTYFOUR),
                 (FIFTEEN, FIFTEEN, 1, FIFTEEN), (FOURTEEN, FIFTEEN, 10 ** 39, FOURTEEN)]
        for first, second, times, run in cases:
            with self.assertRaises(NotEnough) as caught:
                ledger.exchanged(first, second, 3, times=times)
            self.assertEqual(caught.exception.run, run)
        self.assertEqual(ledger.entries, [(FOURTEEN, 3), (TWENTYFIVE, 2)])


class SomeLedgerTest(unittest.TestCase):
    def check(self, counts):
        ledger = some_ledger(counts)
        self.assertIsInstance(ledger, Ledger)
        self.assertEqual(ledger.routine, counts.routine)
        self.assertEqual(sorted(search.jump_counts(ledger.entries).items()), counts.pairs)
        self.assertTrue(ledger.counts() == counts)
        self.assertLessEqual(len(ledger), search.most_entries(counts))
        for run, times in ledger.entries:
            self.assertTrue(counts.routine.is_run(run) and times >= 1)

    def test_few_runs_of_all_small_routines(self):
        for blocks in [2, 3, 4]:
            for web in webs.all_webs(blocks):
                for counts in search.few_counts(web, 3):
                    self.check(counts)

    def test_few_runs_of_larger_routines(self):
        for web, most in [(webs.full_web(5), 3), (webs.double(), 6), (webs.web_with_dead_ends(), 5)]:
            for counts in search.few_counts(web, most):
                self.check(counts)

    def test_unlike_times(self):
        web = webs.full_web(6)
        runs = list(web.all_runs())
        for step in range(1, 40):
            times = [(step * at * at + 7 * at) % 23 for at in range(len(runs))]
            self.check(Ledger(web, [(run, often) for run, often in zip(runs, times) if often]).counts())

    def test_total_0(self):
        for web in [webs.diamond(), webs.ladder(), webs.web_with_dead_ends(), *webs.bare_webs()]:
            self.assertEqual(some_ledger(Counts(web, [])).entries, [])

    def test_one_run_many_times(self):
        web = webs.ladder()
        ledger = Ledger(web, [(tuple(range(40)), BIG)])
        self.assertEqual(some_ledger(ledger.counts()).entries, ledger.entries)
        self.assertEqual(some_ledger(9 * ledger.counts()).entries, (ledger * 9).entries)

    def test_billions_of_runs(self):
        with webs.within(10):
            for web in [webs.ladder(), webs.wide_ladder()]:
                counts = webs.big_counts(web)
                self.check(counts)
                self.check(counts * 9)

    def test_same_answer_for_equal_counts(self):
        web = webs.full_web(5)
        for counts in search.few_counts(web, 2):
            told = some_ledger(counts).entries
            turned = Counts(Routine(5, web.jumps[::-1]), counts.pairs[::-1])
            self.assertEqual(some_ledger(turned).entries, told)
            for other in search.made_otherwise(counts):
                self.assertEqual(some_ledger(other).entries, told)
            told.clear()
            self.assertEqual(some_ledger(counts).entries, some_ledger(turned).entries)
            self.assertTrue(some_ledger(counts).counts() == counts)


if __name__ == "__main__":
    unittest.main()
