"""Points 3, 10, 35, 36 and 37 and the interface of Ledger in runledger/ledgers.py."""

import inspect
import unittest

from runledger import ledgers
from runledger.counts import Counts, Tally
from runledger.errors import BadEntry, NoRun, OtherRoutine
from runledger.ledgers import Ledger
from runledger.parts import Part
from runledger.routines import Routine
from tests import search, webs
from tests.webs import BIG

ONE, TWO = (0, 1, 3), (0, 2, 3)


def not_entries():
    """Values that are no tuple of a run of the diamond and times that may be named."""
    runs = [(0, 3), (0, 1), (0, 1, 2, 3), (0, True, 3), [0, 1, 3], (0, 1, 3, 3), 0, (False, 1, 3), ((0, 1), (1, 3))]
    numbers = [0, -1, BIG + 1, 10 ** 39, -BIG, True, False, None, "1", "", (1,), [1], (), (ONE, 1)]
    return [*webs.odd_values(), *[(run, 1) for run in runs], *[(ONE, times) for times in numbers],
            [ONE, 1], (ONE,), (ONE, 1, 1), (1, ONE), ((ONE, 1),), (0, 1, 3, 1), ONE,
            (ONE, Ledger(webs.diamond(), [])), (ONE, webs.diamond())]


class MakingTest(unittest.TestCase):
    def test_entries(self):
        ledger = Ledger(webs.diamond(), [(TWO, 2), (ONE, 5)])
        self.assertEqual(ledger.entries, [(ONE, 5), (TWO, 2)])
        self.assertEqual((ledger.routine, len(ledger)), (webs.diamond(), 2))
        self.assertIsInstance(ledger.routine, Routine)

    def test_times_of_equal_runs_are_added(self):
        ledger = Ledger(webs.diamond(), [(TWO, BIG), (ONE, 5), (TWO, BIG), (TWO, 1)])
        self.assertEqual(ledger.entries, [(ONE, 5), (TWO, 2 * BIG + 1)])
        self.assertEqual((ledger[TWO], len(ledger)), (2 * BIG + 1, 2))

    def test_entries_are_ascending(self):
        web = webs.full_web(5)
        runs = list(web.all_runs())
        named = [(run, at + 1) for at, run in enumerate(runs)]
        for turned in [named, named[::-1], named[3:] + named[:3]]:
            self.assertEqual(Ledger(web, turned).entries, named)

    def test_no_entries(self):
        for web in [webs.diamond(), webs.web_with_dead_ends(), *webs.bare_webs()]:
            ledger = Ledger(web, [])
            self.assertEqual((ledger.entries, len(ledger), ledger.counts().total), ([], 0, 0))
            self.assertEqual([ledger[run] for run in web.all_runs()], [0] * web.how_many())

    def test_bad_entry(self):
        web = webs.diamond()
        for value in not_entries():
            for named in [[], [(ONE, 1)], [(ONE, 1), (ONE, 1), (TWO, 1)]]:
                with self.subTest(value, named=named), self.assertRaises(BadEntry) as caught:
                    Ledger(web, [*named, value, "later"])
                self.assertEqual(caught.exception.at, len(named))

    def test_bounds_of_times(self):
        self.assertEqual(Ledger(webs.diamond(), [(ONE, 1), (TWO, BIG)]).entries, [(ONE, 1), (TWO, BIG)])

    def test_arguments_by_name(self):
        web = webs.diamond()
        ledger = Ledger(entries=[(ONE, 3), (TWO, 3)], routine=web)
        self.assertEqual(ledger.kept(part=Part(web, web.jumps)), 6)
        same = ledger.exchanged(first=ONE, second=TWO, block=0, times=2)
        self.assertTrue(same == ledger)
        self.assertTrue(ledgers.some_ledger(counts=ledger.counts()) == ledger)
        with self.assertRaises(TypeError):
            ledger.exchanged(ONE, TWO, 0, 2)

    def test_interface(self):
        own = vars(Ledger)
        for name in ["__init__", "__getitem__", "__len__", "__add__", "__mul__", "__rmul__", "__eq__", "entries",
                     "counts", "kept", "exchanged"]:
            self.assertIn(name, own)
        self.assertIsInstance(own["entries"], property)
        self.assertTrue(inspect.isfunction(ledgers.some_ledger))
        self.assertEqual((Ledger.__module__, ledgers.some_ledger.__module__), (ledgers.__name__, ledgers.__name__))


class AskingTest(unittest.TestCase):
    def test_times_of_a_run(self):
        web = webs.full_web(4)
        for entries in search.few_runs(web, 3):
            ledger = Ledger(web, entries)
            self.assertEqual([ledger[run] for run in web.all_runs()],
                             [dict(entries).get(run, 0) for run in web.all_runs()])
            self.assertEqual((len(ledger), ledger.entries), (len(entries), entries))

    def test_no_run(self):
        ledger = Ledger(webs.diamond(), [(ONE, 1)])
        for value in [*webs.odd_values(), (0, 3), (0, 1, 2, 3), [0, 1, 3], 0]:
            with self.subTest(value), self.assertRaises(NoRun) as caught:
                ledger[value]
            self.assertIs(caught.exception.run, value)

    def test_counts(self):
        for web in [webs.full_web(4), webs.web_with_dead_ends(), webs.double()]:
            for entries in search.few_runs(web, 3):
                counts = Ledger(web, entries).counts()
                self.assertIsInstance(counts, Counts)
                self.assertEqual(counts.pairs, sorted(search.jump_counts(entries).items()))
                self.assertTrue(counts == Counts(web, counts.pairs))

    def test_counts_beyond_what_can_be_named(self):
        web = Routine(4, [(0, 1), (1, 2), (1, 3), (2, 3)])
        ledger = Ledger(web, [((0, 1, 3), BIG), ((0, 1, 2, 3), BIG)])
        self.assertEqual(ledger.counts().pairs, [((0, 1), 2 * BIG), ((1, 2), BIG), ((1, 3), BIG), ((2, 3), BIG)])
        self.assertEqual(ledger.counts().total, 2 * BIG)

    def test_kept(self):
        for web in [webs.full_web(4), webs.web_with_dead_ends()]:
            for entries in search.few_runs(web, 2):
                ledger = Ledger(web, entries)
                for jumps in webs.subsets(web.jumps):
                    self.assertEqual(ledger.kept(Part(web, jumps)), search.kept(entries, jumps))

    def test_kept_of_other_routine(self):
        ledger = Ledger(webs.diamond(), [(ONE, 1)])
        for web in [Routine(4, webs.DIAMOND_JUMPS[:3]), Routine(4, [*webs.DIAMOND_JUMPS, (0, 3)]), webs.double()]:
            self.assertRaises(OtherRoutine, ledger.kept, Part(web, []))
        self.assertEqual(ledger.kept(Part(Routine(4, webs.DIAMOND_JUMPS[::-1]), [(0, 1), (1, 3)])), 1)

    def test_equality(self):
        web = webs.full_web(4)
        known = list(search.few_runs(web, 2))
        for one in known:
            for other in known:
                self.assertIs(Ledger(web, one) == Ledger(web, other[::-1]), one == other)
                self.assertIs(Ledger(web, one) != Ledger(web, other[::-1]), one != other)

    def test_equal_counts_are_not_enough(self):
        web = webs.double()
        one = Ledger(web, [((0, 1, 3, 4, 6), 1), ((0, 2, 3, 5, 6), 1)])
        other = Ledger(web, [((0, 1, 3, 5, 6), 1), ((0, 2, 3, 4, 6), 1)])
        self.assertTrue(one.counts() == other.counts())
        self.assertFalse(one == other)

    def test_other_objects_are_unequal(self):
        ledger = Ledger(webs.diamond(), [(ONE, 3)])
        other = Ledger(Routine(4, [*webs.DIAMOND_JUMPS, (0, 3)]), [(ONE, 3)])
        for value in [*webs.odd_values(), ledger.entries, ledger.counts(), ledger.routine, other]:
            with self.subTest(value):
                self.assertIs(ledger == value, False)
                self.assertIs(ledger != value, True)
        self.assertTrue(ledger == Ledger(Routine(4, webs.DIAMOND_JUMPS[::-1]), [(ONE, 1), (ONE, 2)]))


class AddingTest(unittest.TestCase):
    def test_sums(self):
        web = webs.full_web(4)
        known = list(search.few_runs(web, 2))
        for one in known:
            for other in known:
                added = Ledger(web, one) + Ledger(web, other)
                self.assertIsInstance(added, Ledger)
                self.assertTrue(added == Ledger(web, one + other))
                self.assertEqual(added.entries, Ledger(web, one + other).entries)

    def test_times(self):
        web = webs.double()
        for entries in search.few_runs(web, 2):
            ledger, added = Ledger(web, entries), Ledger(web, [])
            for times in range(13):
                for product in [times * ledger, ledger * times]:
                    self.assertIsInstance(product, Ledger)
                    self.assertEqual(product.entries, added.entries)
                    self.assertTrue(product == added)
                added = added + ledger
            self.assertEqual(len(0 * ledger), 0)

    def test_sums_beyond_what_can_be_named(self):
        many = Ledger(webs.diamond(), [(ONE, BIG)])
        for _ in range(20):
            many = 9 * many
        self.assertEqual((many + many).entries, [(ONE, 2 * BIG * 9 ** 20)])
        self.assertEqual((many + many).counts()[(0, 1)], 2 * BIG * 9 ** 20)
        with self.assertRaises(BadEntry):
            Ledger(webs.diamond(), many.entries)

    def test_operands_stay_as_they_are(self):
        one, other = Ledger(webs.diamond(), [(ONE, 2)]), Ledger(webs.diamond(), [(TWO, 1)])
        added = one
        added += other
        one + other, 3 * one, one * 0
        self.assertEqual((one.entries, other.entries), ([(ONE, 2)], [(TWO, 1)]))
        self.assertEqual(added.entries, [(ONE, 2), (TWO, 1)])

    def test_other_routine(self):
        one = Ledger(webs.diamond(), [(ONE, 2)])
        for web in [Routine(4, [*webs.DIAMOND_JUMPS, (1, 2)]), Routine(4, webs.DIAMOND_JUMPS[1:]), webs.double()]:
            self.assertRaises(OtherRoutine, lambda: one + Ledger(web, []))
            self.assertRaises(OtherRoutine, lambda: Ledger(web, []) + one)

    def test_nothing_else_is_added_or_multiplied(self):
        ledger = Ledger(webs.diamond(), [(ONE, 2)])
        for value in [None, "a", [1], (), webs.diamond(), Tally(webs.diamond()), ledger.counts()]:
            with self.subTest(value):
                self.assertRaises(TypeError, lambda: ledger + value)
                self.assertRaises(TypeError, lambda: ledger * value)
                self.assertRaises(TypeError, lambda: value * ledger)


class CopiesTest(unittest.TestCase):
    def test_handed_in_lists_changed_later(self):
        entries = [(TWO, 2), (ONE, 1)]
        ledger = Ledger(webs.diamond(), entries)
        entries.append((ONE, 7))
        entries[0] = (TWO, 9)
        self.assertEqual((ledger.entries, ledger.counts().total), ([(ONE, 1), (TWO, 2)], 3))

    def test_handed_in_lists_stay_as_they_are(self):
        entries = [(TWO, 2), (ONE, 1), (TWO, 2)]
        Ledger(webs.diamond(), entries)
        self.assertEqual(entries, [(TWO, 2), (ONE, 1), (TWO, 2)])

    def test_told_lists_changed_later(self):
        ledger = Ledger(webs.diamond(), [(TWO, 2), (ONE, 1)])
        ledger.entries.clear()
        ledger.counts().pairs.clear()
        self.assertEqual((len(ledger.entries), len(ledger), ledger.counts().total), (2, 2, 3))
        self.assertIsNot(ledger.entries, ledger.entries)

    def test_errors_change_nothing(self):
        ledger = Ledger(webs.diamond(), [(TWO, 2), (ONE, 1)])
        for value in webs.odd_values():
            self.assertRaises(NoRun, lambda: ledger[value])
        self.assertRaises(OtherRoutine, ledger.kept, Part(webs.double(), []))
        self.assertRaises(OtherRoutine, lambda: ledger + Ledger(webs.double(), []))
        self.assertEqual(ledger.entries, [(ONE, 1), (TWO, 2)])


if __name__ == "__main__":
    unittest.main()
