"""Point 8: exchanges and closed lists."""

import unittest
from itertools import permutations

from runledger.errors import NoRun
from runledger.parts import Part, closed
from runledger.routines import Routine
from tests import webs


def slow_closed(runs):
    """The first x, y and block by their places, or None."""
    for x in runs:
        for y in runs:
            for block in x:
                if block in y and x[:x.index(block)] + y[y.index(block):] not in runs:
                    return ("open", x, y, block)
    return None


def crossed():
    """Six runs, many of which meet at more than one block."""
    return Routine(6, [(0, 1), (0, 2), (1, 2), (1, 3), (2, 3), (3, 4), (3, 5), (4, 5)])


class ClosedTest(unittest.TestCase):
    def check(self, web, runs):
        result = closed(web, list(runs))
        wanted = slow_closed(runs)
        if wanted:
            self.assertEqual(result, wanted)
        else:
            self.assertEqual((type(result), len(result), result[0]), (tuple, 2, "part"))
            self.assertEqual(result[1].jumps, sorted({jump for run in runs for jump in webs.pairs_of(run)}))
            self.assertEqual(list(result[1].kept_runs()), sorted(set(runs)))
            self.assertEqual(result[1].routine, web)

    def test_all_lists_of_runs(self):
        for web in [webs.diamond(), webs.double(), crossed(), Routine(4, webs.all_pairs(4))]:
            for runs in webs.subsets(web.all_runs()):
                self.check(web, runs)
                self.check(web, runs[::-1])

    def test_all_orders_of_three(self):
        web = crossed()
        for runs in permutations(web.all_runs(), 3):
            self.check(web, list(runs))

    def test_a_run_more_than_once(self):
        web = crossed()
        for one, two, three in permutations(web.all_runs(), 3):
            self.check(web, [one, two, one, three])
            self.check(web, [one, two, two, three, one])

    def test_closed_lists_are_all_runs_of_a_part(self):
        web = crossed()
        kept = {tuple(Part(web, jumps).kept_runs()) for jumps in webs.subsets(web.jumps)}
        for runs in webs.subsets(web.all_runs()):
            self.assertEqual(closed(web, runs)[0] == "part", tuple(runs) in kept)

    def test_no_runs(self):
        result = closed(webs.diamond(), [])
        self.assertEqual((result[0], result[1].jumps), ("part", []))

    def test_runs_that_meet_at_both_ends_only(self):
        self.assertEqual(closed(webs.diamond(), [(0, 1, 3), (0, 2, 3)])[0], "part")

    def test_first_pair_and_first_block(self):
        x, y, z = (0, 1, 2, 3, 5), (0, 2, 3, 5), (0, 1, 3, 4, 5)
        self.assertEqual(closed(crossed(), [x, y, z]), ("open", x, z, 3))
        self.assertEqual(closed(crossed(), [y, x, z]), ("open", y, z, 3))
        self.assertEqual(closed(crossed(), [z, y, x]), ("open", z, y, 3))
        self.assertEqual(closed(crossed(), [z, x, y]), ("open", z, x, 3))

    def test_no_run(self):
        web = webs.diamond()
        for value in [*webs.odd_values(), (0, 3), [0, 1, 3]]:
            with self.subTest(value), self.assertRaises(NoRun) as caught:
                closed(web, [(0, 1, 3), value, "later"])
            self.assertIs(caught.exception.run, value)

    def test_no_run_is_told_before_an_open_pair(self):
        with self.assertRaises(NoRun) as caught:
            closed(webs.double(), [(0, 1, 3, 4, 6), (0, 2, 3, 5, 6), (0, 6)])
        self.assertEqual(caught.exception.run, (0, 6))

    def test_forty_long_runs(self):
        web = webs.ladder()
        runs = [run for run, _ in zip(web.all_runs(), range(40))]
        self.check(web, runs)

    def test_part_does_not_hang_on_the_list(self):
        runs = [(0, 1, 3)]
        part = closed(webs.diamond(), runs)[1]
        runs.append((0, 2, 3))
        part.jumps.clear()
        self.assertEqual(part.jumps, [(0, 1), (1, 3)])


if __name__ == "__main__":
    unittest.main()
