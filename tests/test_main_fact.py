"""Points 2, 10, 14, 15 and 16 on small routines: every answer against all ledgers that fit."""

import unittest

from runledger.between import known_numbers, ledger_with
from runledger.bounds import ceiling_weight, floor_weight, greatest, is_ceiling, is_floor, least
from runledger.ledgers import Ledger
from runledger.parts import Part
from tests import search, webs


class MainFactTest(unittest.TestCase):
    def check(self, counts, fitting, part):
        numbers = {search.kept(entries, part.jumps) for entries in fitting}
        low, floor = least(counts, part)
        high, ceiling = greatest(counts, part)
        self.assertEqual(numbers, set(range(low, high + 1)))
        self.assertTrue(is_floor(counts.routine, floor) and is_ceiling(counts.routine, ceiling))
        self.assertEqual(search.slow_ceiling_weight(counts, part.jumps, ceiling), high)
        self.assertEqual(search.slow_floor_weight(counts, part.jumps, floor), counts.total - low)
        self.assertEqual((ceiling_weight(counts, part, ceiling), floor_weight(counts, part, floor)),
                         (high, counts.total - low))
        for number in numbers:
            entries = ledger_with(counts, part, number).entries
            self.assertIn(entries, fitting)
            self.assertEqual(search.kept(entries, part.jumps), number)
            self.assertLessEqual(len(entries), 2 * len(counts.pairs))
        for seen in fitting[:1]:
            self.check_seen(counts, fitting, part, seen[:1])

    def check_seen(self, counts, fitting, part, seen):
        numbers = {search.kept(entries, part.jumps) for entries in fitting if search.contains(entries, seen)}
        low, high = known_numbers(counts, Ledger(counts.routine, seen), part)
        self.assertEqual(numbers, set(range(low, high + 1)))

    def check_routine(self, web, most, parts):
        for counts in search.few_counts(web, most):
            fitting = [sorted(entries) for entries in search.fitting(counts)]
            for part in parts:
                self.check(counts, fitting, part)

    def test_all_small_routines(self):
        for blocks in [2, 3, 4]:
            for web in webs.all_webs(blocks):
                self.check_routine(web, 2, [Part(web, jumps) for jumps in webs.subsets(web.jumps)])

    def test_all_parts_of_the_double_diamond(self):
        web = webs.double()
        self.check_routine(web, 3, [Part(web, jumps) for jumps in webs.subsets(web.jumps)])

    def test_parts_of_five_blocks(self):
        web = webs.full_web(5)
        parts = [Part(web, jumps) for jumps in list(webs.subsets(web.jumps))[::31]]
        self.check_routine(web, 3, parts)
        self.check_routine(web, 2, [Part.through(web, [item]) for item in [1, 2, 3, *web.jumps]])

    def test_parts_of_three_choices(self):
        web = webs.chain()
        parts = [Part.through(web, items) for items in [[1, 4, 7], [1, 8], [(0, 2), (4, 6)], [5, (6, 8)], [9]]]
        parts.extend([Part.through(web, [], barred=items) for items in [[1, 4, 7], [1, 8], [(0, 2), (4, 6)], [5]]])
        self.check_routine(web, 3, parts)

    def test_a_short_way_in_the_way_of_two_longer_ones(self):
        for counts in [webs.crossing([1]), webs.crossing([2])]:
            web = counts.routine
            fitting = [sorted(entries) for entries in search.fitting(counts)]
            parts = [Part(web, jumps) for jumps in list(webs.subsets(web.jumps))[::61]]
            parts.extend(webs.without(web, barred) for barred in [[(1, 2), (5, 8)], [(0, 1), (5, 9), (7, 9)]])
            for part in parts:
                self.check(counts, fitting, part)

    def test_parts_with_blocks_on_no_run(self):
        web = webs.web_with_dead_ends()
        self.check_routine(web, 3, [Part(web, jumps) for jumps in list(webs.subsets(web.jumps))[::3]])


if __name__ == "__main__":
    unittest.main()
