"""Points 3, 22, 36 and 37 and the interface of runledger/shares.py."""

import inspect
import unittest
from fractions import Fraction
from itertools import permutations, product
from math import gcd

from runledger import shares
from runledger.bounds import greatest, least
from runledger.counts import Counts
from runledger.errors import OtherRoutine
from runledger.ledgers import Ledger
from runledger.parts import Part
from runledger.routines import Routine
from runledger.shares import share
from tests import search, webs
from tests.webs import BIG


def double_counts():
    return Counts(webs.double(), list(zip(webs.DOUBLE_JUMPS, [6, 4, 6, 4, 7, 3, 7, 3])))


def paired_runs(counts):
    """For each way to pair, at each inner block, the runs that come with the jumps from it: the runs that there are."""
    web = counts.routine
    jumps = [jump for jump, often in counts.pairs for _ in range(often)]
    coming = [[at for at, (_, v) in enumerate(jumps) if v == block] for block in range(web.blocks)]
    going = [[at for at, (u, _) in enumerate(jumps) if u == block] for block in range(web.blocks)]
    for orders in product(*[permutations(going[block]) for block in range(1, web.blocks - 1)]):
        behind = {}
        for block, order in enumerate(orders, start=1):
            behind.update(zip(coming[block], order))
        runs = []
        for at in going[0]:
            run = list(jumps[at])
            while at in behind:
                at = behind[at]
                run.append(jumps[at][1])
            runs.append(tuple(run))
        yield runs


def mean_number(pairings, jumps):
    numbers = [search.kept([(run, 1) for run in runs], jumps) for runs in pairings]
    return Fraction(sum(numbers), len(numbers))


def slow_share(counts, jumps):
    """The words of point 22, run by run."""
    web, added = counts.routine, Fraction(0)
    for run in webs.slow_runs(web.blocks, jumps):
        chances = Fraction(1)
        for u, v in webs.pairs_of(run):
            load = sum(counts[jump] for jump in web.jumps if jump[0] == u)
            chances = chances * Fraction(counts[(u, v)], load) if counts[(u, v)] else Fraction(0)
        added = added + chances
    return counts.total * added


class ShareTest(unittest.TestCase):
    def check(self, counts, part, fraction):
        told = share(counts, part)
        self.assertIsInstance(told, tuple)
        p, q = told
        self.assertEqual((p, q), (fraction.numerator, fraction.denominator))
        self.assertIs(type(p), int)
        self.assertIs(type(q), int)
        self.assertTrue(q >= 1 and gcd(p, q) == 1)
        self.assertTrue(least(counts, part)[0] * q <= p <= greatest(counts, part)[0] * q)

    def check_routine(self, web, most, parts):
        for counts in search.few_counts(web, most):
            pairings = list(paired_runs(counts))
            for part in parts:
                mean = mean_number(pairings, part.jumps)
                self.assertEqual(slow_share(counts, part.jumps), mean)
                self.check(counts, part, mean)

    def test_mean_over_all_pairings_on_small_routines(self):
        for blocks in [2, 3, 4]:
            for web in webs.all_webs(blocks):
                parts = [Part(web, jumps) for jumps in webs.subsets(web.jumps)]
                self.check_routine(web, 2, parts if len(web) < 6 else parts[::3])

    def test_mean_over_all_pairings_of_more_runs(self):
        web = webs.double()
        parts = [Part(web, jumps) for jumps in list(webs.subsets(web.jumps))[::11]]
        parts.extend(Part.through(web, items) for items in [[1, 4], [2], [(0, 1), 5], [6]])
        self.check_routine(web, 3, parts)
        web = webs.full_web(4)
        self.check_routine(web, 3, [Part.through(web, items) for items in [[1], [2], [1, 2], [(0, 3)], [(1, 3)], []]])
        web = webs.full_web(5)
        self.check_routine(web, 2, [Part.through(web, items) for items in [[1], [2, 3], [1, 3], [(2, 4)], [(0, 1), 2]]])
        self.check_routine(webs.web_with_dead_ends(), 3, [Part(webs.web_with_dead_ends(), [(0, 1), (1, 2), (2, 5)])])

    def test_words_on_unlike_counts(self):
        web = webs.chain()
        for times in [[5, 1, 1, 2, 3, 1, 4, 1], [1, 2, 3, 4, 5, 6, 7, 8], [9, 0, 0, 9, 0, 9, 9, 0]]:
            runs = [(run, often) for run, often in zip(web.all_runs(), times) if often]
            counts = Ledger(web, runs).counts()
            for jumps in list(webs.subsets(web.jumps))[::53]:
                self.check(counts, Part(web, jumps), slow_share(counts, jumps))

    def test_total_0(self):
        for web in [webs.diamond(), webs.ladder(), webs.web_with_dead_ends(), *webs.bare_webs()]:
            for jumps in [[], web.jumps]:
                self.assertEqual(share(Counts(web, []), Part(web, jumps)), (0, 1))

    def test_parts_of_all_and_of_no_jumps(self):
        for web in [webs.double(), webs.full_web(4)]:
            for counts in search.few_counts(web, 3):
                self.assertEqual(share(counts, Part(web, web.jumps)), (counts.total, 1))
                self.assertEqual(share(counts, Part(web, [])), (0, 1))

    def test_one_run_alone(self):
        web, run = webs.ladder(), tuple(range(40))
        counts = 9 * Ledger(web, [(run, BIG)]).counts()
        self.assertEqual(share(counts, Part.through(web, [7, (20, 21)])), (9 * BIG, 1))
        self.assertEqual(share(counts, Part.through(web, [(20, 22)])), (0, 1))
        self.assertEqual(share(counts, Part(web, webs.pairs_of(run))), (9 * BIG, 1))

    def test_blocks_that_nothing_passes(self):
        web = webs.web_with_dead_ends()
        counts = Counts(web, [((0, 1), 4), ((1, 5), 3), ((1, 2), 1), ((2, 5), 1)])
        self.assertEqual(share(counts, Part.through(web, [1], barred=[2])), (3, 1))
        self.assertEqual(share(counts, Part(web, [(0, 4), (3, 4), (3, 5)])), (0, 1))
        self.assertEqual(share(counts, Part.through(web, [(0, 2)])), (0, 1))

    def test_fractions_without_common_divisors(self):
        web, part = webs.double(), Part.through(webs.double(), [1, 4])
        counts, told = double_counts(), []
        for _ in range(12):
            told.append(share(counts, part))
            counts = counts + double_counts()
        self.assertEqual(told[:5], [(21, 5), (42, 5), (63, 5), (84, 5), (21, 1)])
        self.assertEqual(told, [(f.numerator, f.denominator) for f in [Fraction(21 * k, 5) for k in range(1, 13)]])

    def test_numbers_beyond_what_can_be_named(self):
        web, counts = webs.double(), double_counts()
        for _ in range(40):
            counts = 9 * counts
        self.assertEqual(share(counts, Part.through(web, [1, 4])), (21 * 9 ** 40, 5))
        numbers = [BIG, BIG - 1, BIG, BIG - 1, BIG - 1, BIG, BIG - 1, BIG]
        counts = Counts(web, list(zip(webs.DOUBLE_JUMPS, numbers)))
        self.check(counts, Part.through(web, [1, 4]), Fraction(BIG * (BIG - 1), 2 * BIG - 1))

    def test_billions_of_runs(self):
        with webs.within(20):
            for web in [webs.ladder(), webs.wide_ladder()]:
                for counts in [webs.big_counts(web), 9 * webs.big_counts(web)]:
                    self.assertEqual(share(counts, Part(web, web.jumps)), (counts.total, 1))
                    self.check_large(web, counts)

    def check_large(self, web, counts):
        for part in webs.many_parts(web):
            p, q = share(counts, part)
            self.assertTrue(q >= 1 and gcd(p, q) == 1)
            self.assertTrue(least(counts, part)[0] * q <= p <= greatest(counts, part)[0] * q)
        for block in [5, 20, 33]:
            passing = share(counts, Part.through(web, [block]))
            self.assertEqual(passing, (counts.load(block), 1))
            barred = share(counts, Part.through(web, [], barred=[block]))
            self.assertEqual(barred, (counts.total - counts.load(block), 1))
        for jump in web.jumps[::17]:
            self.assertEqual(share(counts, Part.through(web, [jump])), (counts[jump], 1))

    def test_other_routine(self):
        for web in [Routine(7, webs.DOUBLE_JUMPS[1:]), Routine(8, webs.DOUBLE_JUMPS), webs.diamond()]:
            self.assertRaises(OtherRoutine, share, double_counts(), Part(web, []))
            self.assertRaises(OtherRoutine, share, Counts(web, []), Part(webs.double(), []))
        turned = Routine(7, webs.DOUBLE_JUMPS[::-1])
        self.assertEqual(share(double_counts(), Part.through(turned, [1, 4])), (21, 5))

    def test_equal_things_made_otherwise(self):
        web = webs.full_web(4)
        turned = Routine(4, web.jumps[::-1])
        for counts in search.few_counts(web, 3):
            for jumps in [[(0, 1), (1, 3)], [(0, 2), (2, 3), (0, 1), (1, 2)], web.jumps]:
                told = share(counts, Part(web, jumps))
                for equal in [Counts(turned, counts.pairs[::-1]), *search.made_otherwise(counts), counts]:
                    self.assertEqual(share(equal, Part(turned, jumps[::-1] + jumps)), told)

    def test_arguments_by_name(self):
        self.assertEqual(share(part=Part.through(webs.double(), [1, 4]), counts=double_counts()), (21, 5))

    def test_interface(self):
        self.assertTrue(inspect.isfunction(shares.share))
        self.assertEqual(shares.share.__module__, shares.__name__)


if __name__ == "__main__":
    unittest.main()
