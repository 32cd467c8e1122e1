"""Points 3, 12, 13, 14, 36 and 37 and the interface of runledger/bounds.py."""

import inspect
import unittest

from runledger import bounds
from runledger.bounds import ceiling_weight, floor_weight, greatest, is_ceiling, is_floor, least
from runledger.counts import Counts
from runledger.errors import NoCeiling, NoFloor, OtherRoutine
from runledger.ledgers import Ledger
from runledger.parts import Part
from runledger.routines import Routine
from tests import search, webs
from tests.webs import BIG


def double_counts():
    return Counts(webs.double(), list(zip(webs.DOUBLE_JUMPS, [6, 4, 6, 4, 7, 3, 7, 3])))


def no_lists_of_blocks():
    """Values that are no floor of the diamond, and so no ceiling."""
    values = [value for value in webs.odd_values() if value not in ([0], [0, 1], [0, 1, 3])]
    return [*values, (0,), (0, 1), [1], [1, 2], [3], [0, 0], [0, 2, 1], [0, 1, 1], [1, 0], [0, 4], [-1, 0], [0, -1],
            [False], [False, 1], [0, True], [0, None], [0, "1"], ["0"], [0, (0, 1)], [0, [1]], [[0]], [0, 10 ** 39],
            {0: 1}, "0", [0, 1, 2, 3, 3], [0, 1, 2, 3, 4], list(range(41))]


class CeilingsAndFloorsTest(unittest.TestCase):
    def test_all_lists_of_blocks(self):
        for web in [webs.diamond(), webs.web_with_dead_ends(), *webs.bare_webs()]:
            for blocks in search.lists_of_blocks(web):
                self.assertIs(is_floor(web, blocks), 0 in blocks)
                self.assertIs(is_ceiling(web, blocks), 0 in blocks and web.blocks - 1 not in blocks)
                if len(blocks) > 1:
                    self.assertIs(is_floor(web, blocks[::-1]), False)
                    self.assertIs(is_ceiling(web, blocks[::-1]), False)

    def test_of_any_value(self):
        for value in no_lists_of_blocks():
            with self.subTest(value):
                self.assertIs(is_floor(webs.diamond(), value), False)
                self.assertIs(is_ceiling(webs.diamond(), value), False)

    def test_blocks_of_the_routine_itself(self):
        self.assertIs(is_ceiling(webs.double(), [0, 3, 5]), True)
        self.assertIs(is_floor(webs.double(), [0, 3, 6]), True)
        self.assertIs(is_ceiling(webs.double(), [0, 3, 6]), False)
        self.assertIs(is_floor(webs.double(), [0, 3, 7]), False)
        self.assertIs(is_ceiling(webs.ladder(), list(range(39))), True)
        self.assertIs(is_floor(webs.ladder(), list(range(40))), True)


class WeightsTest(unittest.TestCase):
    def test_weights_bound_the_numbers_in_all_ledgers(self):
        web = webs.full_web(4)
        for counts in search.few_counts(web, 2):
            fitting = list(search.fitting(counts))
            for jumps in webs.subsets(web.jumps):
                part = Part(web, jumps)
                numbers = [search.kept(entries, jumps) for entries in fitting]
                for blocks in search.lists_of_blocks(web):
                    self.check_weights(counts, part, blocks, numbers)

    def check_weights(self, counts, part, blocks, numbers):
        if is_ceiling(counts.routine, blocks):
            weight = ceiling_weight(counts, part, blocks)
            self.assertEqual(weight, search.slow_ceiling_weight(counts, part.jumps, blocks))
            self.assertLessEqual(max(numbers), weight)
        if is_floor(counts.routine, blocks):
            weight = floor_weight(counts, part, blocks)
            self.assertEqual(weight, search.slow_floor_weight(counts, part.jumps, blocks))
            self.assertLessEqual(counts.total - min(numbers), weight)

    def test_jumps_on_no_run_are_weighed_too(self):
        web = Routine(4, [(0, 1), (0, 2), (1, 3), (2, 3)])
        counts = Counts(web, list(zip(web.jumps, [2, 1, 2, 1])))
        part = Part(web, [(0, 1), (0, 2), (1, 3)])
        self.assertEqual([ceiling_weight(counts, part, blocks) for blocks in ([0], [0, 1], [0, 2])], [3, 3, 2])
        self.assertEqual([floor_weight(counts, part, blocks) for blocks in ([0], [0, 2], [0, 1, 2, 3])], [3, 3, 1])

    def test_no_ceiling_no_floor(self):
        counts = Counts(webs.diamond(), [((0, 1), 1), ((1, 3), 1)])
        part = Part(webs.diamond(), [(0, 1)])
        for value in no_lists_of_blocks():
            with self.subTest(value):
                self.assertRaises(NoCeiling, ceiling_weight, counts, part, value)
                self.assertRaises(NoFloor, floor_weight, counts, part, value)
        self.assertRaises(NoCeiling, ceiling_weight, counts, part, [0, 1, 3])
        self.assertEqual(floor_weight(counts, part, [0, 1, 3]), 1)

    def test_other_routine_comes_first(self):
        counts = Counts(webs.diamond(), [])
        for web in [Routine(4, webs.DIAMOND_JUMPS[1:]), Routine(5, webs.DIAMOND_JUMPS), webs.double()]:
            for blocks in [[0], None]:
                self.assertRaises(OtherRoutine, ceiling_weight, counts, Part(web, []), blocks)
                self.assertRaises(OtherRoutine, floor_weight, counts, Part(web, []), blocks)
        part = Part(Routine(4, webs.DIAMOND_JUMPS[::-1]), [(0, 1)])
        self.assertEqual((ceiling_weight(counts, part, [0]), floor_weight(counts, part, [0])), (0, 0))

    def test_great_counts(self):
        web = Routine(2, [(0, 1)])
        counts = 9 * Counts(web, [((0, 1), BIG)])
        self.assertEqual(ceiling_weight(counts, Part(web, web.jumps), [0]), 9 * BIG)
        self.assertEqual(floor_weight(counts, Part(web, []), [0, 1]), 9 * BIG)


class GreatestAndLeastTest(unittest.TestCase):
    def check(self, counts, part):
        high, ceiling = greatest(counts, part)
        low, floor = least(counts, part)
        self.assertTrue(is_ceiling(counts.routine, ceiling) and is_floor(counts.routine, floor))
        self.assertEqual(search.slow_ceiling_weight(counts, part.jumps, ceiling), high)
        self.assertEqual(search.slow_floor_weight(counts, part.jumps, floor), counts.total - low)
        self.assertTrue(0 <= low <= high <= counts.total)
        return low, high

    def test_every_number_has_its_ceiling_or_floor(self):
        for part in [Part(webs.double(), jumps) for jumps in webs.subsets(webs.DOUBLE_JUMPS)]:
            low, high = self.check(double_counts(), part)
            fitting = search.fitting(double_counts())
            numbers = {search.kept(entries, part.jumps) for entries in fitting}
            self.assertEqual(numbers, set(range(low, high + 1)))

    def test_results_are_tuples(self):
        part = Part.through(webs.double(), [1, 4])
        for told in [greatest(double_counts(), part), least(double_counts(), part)]:
            self.assertIsInstance(told, tuple)
            self.assertIsInstance(told[0], int)
            self.assertIsInstance(told[1], list)

    def test_parts_of_no_and_of_all_jumps(self):
        web = webs.double()
        self.assertEqual(self.check(double_counts(), Part(web, [])), (0, 0))
        self.assertEqual(self.check(double_counts(), Part(web, web.jumps)), (10, 10))

    def test_a_part_with_jumps_on_no_run(self):
        web = webs.web_with_dead_ends()
        counts = Ledger(web, [((0, 1, 2, 5), 2), ((0, 1, 5), 3), ((0, 2, 5), 4)]).counts()
        self.assertEqual(self.check(counts, Part(web, [(0, 4), (3, 4), (3, 5)])), (0, 0))
        self.assertEqual(self.check(counts, Part(web, [(0, 4), (3, 4), (0, 1), (1, 5)])), (3, 3))
        self.assertEqual(self.check(counts, Part(web, [(0, 4), (0, 2), (1, 2), (2, 5), (0, 1)])), (6, 6))

    def test_total_0(self):
        for web in [webs.diamond(), webs.web_with_dead_ends(), *webs.bare_webs()]:
            for jumps in [[], web.jumps, web.jumps[:1]]:
                self.assertEqual(self.check(Counts(web, []), Part(web, jumps)), (0, 0))

    def test_one_run_many_times(self):
        web = webs.ladder()
        counts = 9 * Ledger(web, [(tuple(range(40)), BIG)]).counts()
        self.assertEqual(self.check(counts, Part.through(web, [7])), (9 * BIG, 9 * BIG))
        self.assertEqual(self.check(counts, Part.through(web, [(7, 9)])), (0, 0))

    def test_runs_that_must_overlap(self):
        web = webs.double()
        for often in [1, BIG, 10 ** 29 + 7]:
            half = often // 2
            counts = Counts(web, list(zip(web.jumps, [often, half, often, half, half, often, half, often])))
            low, high = self.check(counts, Part.through(web, [1, 5]))
            self.assertEqual((low, high), (often - half, often))

    def test_a_short_way_in_the_way_of_two_longer_ones(self):
        for times in [[1], [2, 1], [BIG, 3, 10 ** 17, BIG - 1]]:
            counts, total = webs.crossing(times), sum(times)
            web = counts.routine
            self.assertEqual(self.check(counts, webs.without(web, [(1, 2), (5, 8)])), (total, 2 * total))
            self.assertEqual(self.check(counts, webs.without(web, [(0, 1), (5, 9), (7, 9)])), (0, total))
            self.assertEqual(self.check(9 * counts, webs.without(web, [(0, 1), (5, 8)])), (9 * total, 18 * total))

    def test_other_routine(self):
        counts = Counts(webs.diamond(), [])
        for web in [Routine(4, webs.DIAMOND_JUMPS[1:]), Routine(5, webs.DIAMOND_JUMPS), webs.double()]:
            for jumps in [[], web.jumps]:
                self.assertRaises(OtherRoutine, greatest, counts, Part(web, jumps))
                self.assertRaises(OtherRoutine, least, counts, Part(web, jumps))

    def test_billions_of_runs(self):
        with webs.within(20):
            for web in [webs.ladder(), webs.wide_ladder()]:
                for counts in [webs.big_counts(web), 9 * webs.big_counts(web)]:
                    for part in webs.many_parts(web):
                        self.check(counts, part)
                    for block in range(1, 39):
                        load = counts.load(block)
                        self.assertEqual(self.check(counts, Part.through(web, [block])), (load, load))
                    for jump in web.jumps[::5]:
                        part = Part.through(web, [], barred=[jump])
                        without = counts.total - counts[jump]
                        self.assertEqual(self.check(counts, part), (without, without))

    def test_same_answers_for_equal_things(self):
        web = webs.full_web(4)
        turned = Routine(4, web.jumps[::-1])
        for counts in search.few_counts(web, 2):
            other = Counts(turned, counts.pairs[::-1])
            for jumps in webs.subsets(web.jumps):
                part, same = Part(web, jumps), Part(turned, jumps[::-1])
                told = [greatest(counts, part), least(counts, part)]
                self.assertEqual([greatest(other, same), least(other, same)], told)
                for equal in search.made_otherwise(other):
                    self.assertEqual([greatest(equal, part), least(equal, part)], told)
                told[0][1].append("x")
                told[1][1].clear()
                again = [least(counts, part), greatest(counts, part)]
                self.assertEqual(again, [least(other, same), greatest(other, same)])
                self.check(counts, part)

    def test_handed_in_lists_stay_as_they_are(self):
        blocks = [0, 1, 3]
        part = Part.through(webs.double(), [1, 4])
        ceiling_weight(double_counts(), part, blocks), floor_weight(double_counts(), part, blocks)
        is_ceiling(webs.double(), blocks), is_floor(webs.double(), blocks)
        self.assertEqual(blocks, [0, 1, 3])

    def test_arguments_by_name(self):
        web, counts = webs.double(), double_counts()
        part = Part.through(web, [1, 4])
        self.assertEqual(ceiling_weight(blocks=[0], part=part, counts=counts), 6)
        self.assertEqual(floor_weight(blocks=[0, 1, 3, 4, 6], part=part, counts=counts), 7)
        self.assertEqual(greatest(part=part, counts=counts)[0], 6)
        self.assertEqual(least(part=part, counts=counts)[0], 3)
        self.assertTrue(is_ceiling(value=[0], routine=web) and is_floor(value=[0], routine=web))

    def test_interface(self):
        for name in ["is_ceiling", "is_floor", "ceiling_weight", "floor_weight", "greatest", "least"]:
            self.assertTrue(inspect.isfunction(getattr(bounds, name)))
            self.assertEqual(getattr(bounds, name).__module__, bounds.__name__)


if __name__ == "__main__":
    unittest.main()
