"""Points 3, 15, 16, 36 and 37 and the interface of runledger/between.py."""

import inspect
import unittest

from runledger import between
from runledger.between import known_numbers, ledger_with
from runledger.bounds import greatest, least
from runledger.counts import Counts
from runledger.errors import NotPossible, NotSeen, OtherRoutine
from runledger.ledgers import Ledger
from runledger.parts import Part
from runledger.routines import Routine
from tests import search, webs
from tests.webs import BIG


def double_counts():
    return Counts(webs.double(), list(zip(webs.DOUBLE_JUMPS, [6, 4, 6, 4, 7, 3, 7, 3])))


class LedgerWithTest(unittest.TestCase):
    def check(self, counts, part, number):
        ledger = ledger_with(counts, part, number)
        self.assertIsInstance(ledger, Ledger)
        self.assertEqual(ledger.routine, counts.routine)
        self.assertEqual(sorted(search.jump_counts(ledger.entries).items()), counts.pairs)
        self.assertEqual(search.kept(ledger.entries, part.jumps), number)
        self.assertLessEqual(len(ledger.entries), 2 * len(counts.pairs))
        self.assertEqual([run for run, _ in ledger.entries], sorted({run for run, _ in ledger.entries}))
        for run, times in ledger.entries:
            self.assertTrue(counts.routine.is_run(run) and times >= 1)

    def check_all(self, counts, part):
        low, high = least(counts, part)[0], greatest(counts, part)[0]
        for number in range(low, high + 1):
            self.check(counts, part, number)
        for number in [low - 1, high + 1, -1, counts.total + 1, 10 ** 39, -10 ** 39]:
            with self.assertRaises(NotPossible) as caught:
                ledger_with(counts, part, number)
            self.assertEqual((caught.exception.least, caught.exception.greatest), (low, high))

    def test_every_part_of_the_double_diamond(self):
        for jumps in webs.subsets(webs.DOUBLE_JUMPS):
            self.check_all(double_counts(), Part(webs.double(), jumps))

    def test_few_runs(self):
        web = webs.full_web(4)
        for counts in search.few_counts(web, 3):
            for jumps in webs.subsets(web.jumps):
                self.check_all(counts, Part(web, jumps))

    def test_three_choices(self):
        web = webs.chain()
        for counts in [Ledger(web, list(zip(web.all_runs(), times))).counts()
                       for times in [[5, 1, 1, 2, 3, 1, 4, 1], [1, 2, 3, 4, 5, 6, 7, 8], [9, 1, 1, 9, 1, 9, 9, 1]]]:
            for items in [[1, 4, 7], [(0, 2), 8], [1, (3, 5), (6, 7)], [4, 7], [(1, 3)]]:
                self.check_all(counts, Part.through(web, items))
                self.check_all(counts, Part.through(web, [], barred=items))

    def test_a_short_way_in_the_way_of_two_longer_ones(self):
        for barred in [[(1, 2), (5, 8)], [(0, 1), (5, 9), (7, 9)], [(0, 1), (5, 8)], [(0, 3), (2, 6)]]:
            counts = webs.crossing([2, 1, 3])
            self.check_all(counts, webs.without(counts.routine, barred))
            counts = webs.crossing([BIG, 3, 10 ** 17, BIG - 1])
            part = webs.without(counts.routine, barred)
            low, high = least(counts, part)[0], greatest(counts, part)[0]
            for number in [low, high, (low + high) // 2, low + (high - low) // 3]:
                self.check(counts, part, number)

    def test_total_0(self):
        for web in [webs.diamond(), webs.web_with_dead_ends(), *webs.bare_webs()]:
            for jumps in [[], web.jumps]:
                self.check_all(Counts(web, []), Part(web, jumps))
                self.assertEqual(ledger_with(Counts(web, []), Part(web, jumps), 0).entries, [])

    def test_parts_of_no_and_of_all_jumps(self):
        web = webs.double()
        self.check_all(double_counts(), Part(web, []))
        self.check_all(double_counts(), Part(web, web.jumps))

    def test_one_run_many_times(self):
        web = webs.ladder()
        run = tuple(range(40))
        counts = 9 * Ledger(web, [(run, BIG)]).counts()
        self.assertEqual(ledger_with(counts, Part.through(web, [5]), 9 * BIG).entries, [(run, 9 * BIG)])
        self.assertEqual(ledger_with(counts, Part.through(web, [(5, 7)]), 0).entries, [(run, 9 * BIG)])
        with self.assertRaises(NotPossible) as caught:
            ledger_with(counts, Part.through(web, [5]), 9 * BIG - 1)
        self.assertEqual((caught.exception.least, caught.exception.greatest), (9 * BIG, 9 * BIG))

    def test_billions_of_runs(self):
        with webs.within(30):
            for web in [webs.ladder(), webs.wide_ladder()]:
                for counts in [webs.big_counts(web), 9 * webs.big_counts(web)]:
                    for part in webs.many_parts(web):
                        low, high = least(counts, part)[0], greatest(counts, part)[0]
                        for number in [low, high, (low + high) // 2, low + (high - low) // 7]:
                            self.check(counts, part, number)

    def test_other_routine_comes_first(self):
        for web in [Routine(7, webs.DOUBLE_JUMPS[1:]), Routine(8, webs.DOUBLE_JUMPS), webs.diamond()]:
            for number in [0, -1, 10 ** 39]:
                self.assertRaises(OtherRoutine, ledger_with, double_counts(), Part(web, []), number)

    def test_same_answer_for_equal_things(self):
        web = webs.double()
        turned = Routine(7, webs.DOUBLE_JUMPS[::-1])
        other = Counts(turned, double_counts().pairs[::-1])
        for jumps in webs.subsets(webs.DOUBLE_JUMPS):
            part, same = Part(web, jumps), Part(turned, jumps[::-1])
            number = least(other, same)[0]
            told = ledger_with(double_counts(), part, number).entries
            self.assertEqual(ledger_with(other, same, number).entries, told)
            for equal in search.made_otherwise(other):
                self.assertEqual(ledger_with(equal, part, number).entries, told)
            told.clear()
            self.check(double_counts(), part, number)
            self.assertEqual(ledger_with(double_counts(), part, number), ledger_with(other, same, number))


class KnownNumbersTest(unittest.TestCase):
    def check_all_seen(self, counts, parts):
        """All ledgers of few runs that can be seen, against all ledgers that fit and contain them."""
        fitting = list(search.fitting(counts))
        for seen in {tuple(part_of) for entries in fitting for part_of in within_entries(entries)}:
            left = [entries for entries in fitting if search.contains(entries, seen)]
            for part in parts:
                numbers = {search.kept(entries, part.jumps) for entries in left}
                told = known_numbers(counts, Ledger(counts.routine, list(seen)), part)
                self.assertIsInstance(told, tuple)
                self.assertEqual(numbers, set(range(told[0], told[1] + 1)))
                self.assertTrue(least(counts, part)[0] <= told[0] <= told[1] <= greatest(counts, part)[0])

    def test_few_runs(self):
        web = webs.full_web(4)
        for counts in search.few_counts(web, 2):
            self.check_all_seen(counts, [Part(web, jumps) for jumps in webs.subsets(web.jumps)])

    def test_few_runs_of_the_double_diamond(self):
        web = webs.double()
        parts = [Part(web, jumps) for jumps in list(webs.subsets(web.jumps))[::9]]
        parts.extend(Part.through(web, items) for items in [[1, 4], [1], [5], [(0, 2), (5, 6)]])
        for counts in search.few_counts(web, 3):
            self.check_all_seen(counts, parts)

    def test_nothing_seen_and_everything_seen(self):
        web = webs.double()
        ledger = Ledger(web, [((0, 1, 3, 4, 6), 6), ((0, 2, 3, 4, 6), 1), ((0, 2, 3, 5, 6), 3)])
        for jumps in webs.subsets(web.jumps):
            part = Part(web, jumps)
            possible = (least(ledger.counts(), part)[0], greatest(ledger.counts(), part)[0])
            self.assertEqual(known_numbers(ledger.counts(), Ledger(web, []), part), possible)
            self.assertEqual(known_numbers(ledger.counts(), ledger, part), (ledger.kept(part), ledger.kept(part)))

    def test_not_seen(self):
        web, part = webs.double(), Part(webs.double(), [])
        cases = [([((0, 1, 3, 4, 6), 7)], (0, 1)), ([((0, 2, 3, 5, 6), 4)], (3, 5)),
                 ([((0, 2, 3, 4, 6), 5), ((0, 1, 3, 5, 6), 6)], (0, 2)), ([((0, 1, 3, 5, 6), 4)], (3, 5)),
                 ([((0, 1, 3, 4, 6), 4), ((0, 2, 3, 4, 6), 4)], (3, 4)), ([((0, 2, 3, 5, 6), BIG)], (0, 2))]
        for entries, jump in cases:
            with self.assertRaises(NotSeen) as caught:
                known_numbers(double_counts(), Ledger(web, entries), part)
            self.assertEqual(caught.exception.jump, jump)
        with self.assertRaises(NotSeen) as caught:
            known_numbers(Counts(web, []), Ledger(web, [((0, 2, 3, 4, 6), 1)]), part)
        self.assertEqual(caught.exception.jump, (0, 2))

    def test_not_seen_or_seen_for_all_ledgers_of_few_runs(self):
        web = webs.full_web(4)
        part = Part.through(web, [1, 2])
        for counts in search.few_counts(web, 2):
            for entries in search.few_runs(web, 3):
                seen = search.jump_counts(entries)
                over = [jump for jump in web.jumps if seen.get(jump, 0) > counts[jump]]
                if over:
                    with self.assertRaises(NotSeen) as caught:
                        known_numbers(counts, Ledger(web, entries), part)
                    self.assertEqual(caught.exception.jump, over[0])
                else:
                    left = [e for e in search.fitting(counts) if search.contains(e, entries)]
                    numbers = sorted({search.kept(e, part.jumps) for e in left})
                    self.assertEqual(known_numbers(counts, Ledger(web, entries), part), (numbers[0], numbers[-1]))

    def test_total_0(self):
        for web in [webs.diamond(), webs.web_with_dead_ends(), *webs.bare_webs()]:
            part = Part(web, web.jumps)
            self.assertEqual(known_numbers(Counts(web, []), Ledger(web, []), part), (0, 0))

    def test_other_routine_comes_first(self):
        web = webs.double()
        part, too_many = Part(web, []), Ledger(web, [((0, 1, 3, 4, 6), 99)])
        for other in [Routine(7, [*webs.DOUBLE_JUMPS, (0, 6)]), webs.diamond()]:
            other_seen = Ledger(other, [(run, 99) for run in other.all_runs()])
            self.assertRaises(OtherRoutine, known_numbers, double_counts(), other_seen, part)
            self.assertRaises(OtherRoutine, known_numbers, double_counts(), too_many, Part(other, []))
            self.assertRaises(OtherRoutine, known_numbers, double_counts(), other_seen, Part(other, []))
        turned = Routine(7, webs.DOUBLE_JUMPS[::-1])
        self.assertEqual(known_numbers(double_counts(), Ledger(turned, []), Part(turned, [])), (0, 0))

    def test_sums_beyond_what_can_be_named(self):
        web = webs.double()
        counts, part = double_counts() * 9, Part.through(web, [1, 4])
        for _ in range(40):
            counts = counts * 9
        seen = Ledger(web, [((0, 2, 3, 4, 6), 1)])
        for _ in range(41):
            seen = seen * 9
        self.assertGreater(seen.entries[0][1], BIG)
        self.assertEqual(known_numbers(counts, Ledger(web, []), part), (3 * 9 ** 41, 6 * 9 ** 41))
        self.assertEqual(known_numbers(counts, seen, part), (3 * 9 ** 41, 6 * 9 ** 41))
        self.assertEqual(known_numbers(counts, seen * 4, part), (3 * 9 ** 41, 3 * 9 ** 41))

    def test_billions_of_runs(self):
        with webs.within(20):
            for web in [webs.ladder(), webs.wide_ladder()]:
                counts = webs.big_counts(web)
                for part in webs.many_parts(web):
                    low, high = least(counts, part)[0], greatest(counts, part)[0]
                    ledger = ledger_with(counts, part, (low + high) // 2)
                    seen = Ledger(web, [(run, min(BIG, (times + 1) // 2)) for run, times in ledger.entries])
                    known = known_numbers(counts, seen, part)
                    self.assertTrue(low <= known[0] <= (low + high) // 2 <= known[1] <= high)
                    self.assertEqual(known_numbers(counts, ledger, part), (ledger.kept(part), ledger.kept(part)))

    def test_same_answer_when_asked_again(self):
        web = webs.double()
        part = Part.through(web, [1, 4])
        seen, turned = [((0, 2, 3, 4, 6), 1), ((0, 2, 3, 5, 6), 1)], [((0, 2, 3, 5, 6), 1), ((0, 2, 3, 4, 6), 1)]
        told = known_numbers(double_counts(), Ledger(web, seen), part)
        self.assertEqual(known_numbers(double_counts(), Ledger(web, turned), part), told)
        self.assertEqual(known_numbers(double_counts(), Ledger(web, seen), part), told)

    def test_arguments_by_name(self):
        web, part = webs.double(), Part.through(webs.double(), [1, 4])
        seen = Ledger(web, [((0, 2, 3, 5, 6), 1)])
        self.assertEqual(known_numbers(part=part, seen=seen, counts=double_counts()), (4, 6))
        self.assertEqual(ledger_with(number=4, part=part, counts=double_counts()).kept(part), 4)

    def test_interface(self):
        for name in ["ledger_with", "known_numbers"]:
            self.assertTrue(inspect.isfunction(getattr(between, name)))
            self.assertEqual(getattr(between, name).__module__, between.__name__)


def within_entries(entries):
    """All lists of (run, times) that the entries contain."""
    if not entries:
        return [[]]
    run, times = entries[0]
    rests = within_entries(entries[1:])
    return [[(run, often), *rest] if often else rest for often in range(times + 1) for rest in rests]


if __name__ == "__main__":
    unittest.main()
