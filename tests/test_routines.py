"""Points 3, 4, 5, 36 and 37 and the interface of runledger/routines.py, without texts."""

import inspect
import unittest
from itertools import islice

from runledger import routines
from runledger.errors import BadBlocks, BadJump, NoBlock, TooLarge
from runledger.routines import Routine
from tests import webs

MOST_JUMPS = webs.all_pairs(40)[:120]


class MakingTest(unittest.TestCase):
    def test_bounds_of_blocks(self):
        for blocks in [2, 3, 39, 40]:
            self.assertEqual(Routine(blocks, []).blocks, blocks)
        for blocks in [-1, 0, 1, 41, 42, 10 ** 39]:
            with self.subTest(blocks), self.assertRaises(BadBlocks):
                Routine(blocks, [])

    def test_blocks_of_any_value(self):
        for value in webs.odd_values():
            with self.subTest(value), self.assertRaises(BadBlocks):
                Routine(value, [])

    def test_jumps_in_any_order(self):
        web = Routine(4, [(1, 3), (0, 1), (2, 3), (0, 3)])
        self.assertEqual(web.jumps, [(0, 1), (0, 3), (1, 3), (2, 3)])

    def test_no_jumps(self):
        web = Routine(2, [])
        self.assertEqual((web.jumps, len(web), web.how_many(), list(web.all_runs())), ([], 0, 0, []))

    def test_jumps_of_any_value(self):
        for value in webs.odd_values():
            with self.subTest(value), self.assertRaises(BadJump) as caught:
                Routine(4, [(0, 1), (1, 2), value, (2, 3)])
            self.assertEqual(caught.exception.at, 2)

    def test_jump_beyond_the_blocks(self):
        Routine(4, [(0, 3)])
        with self.assertRaises(BadJump) as caught:
            Routine(4, [(0, 4)])
        self.assertEqual(caught.exception.at, 0)

    def test_jump_named_again(self):
        with self.assertRaises(BadJump) as caught:
            Routine(4, [(0, 1), (1, 2), (0, 1), (1, 2)])
        self.assertEqual(caught.exception.at, 2)

    def test_bounds_of_jumps(self):
        web = Routine(40, MOST_JUMPS[::-1])
        self.assertEqual((len(web), web.jumps), (120, MOST_JUMPS))
        with self.assertRaises(TooLarge) as caught:
            Routine(40, webs.all_pairs(40)[:121])
        self.assertEqual(caught.exception.bound, 120)

    def test_first_error(self):
        many = webs.all_pairs(40)[:130]
        with self.assertRaises(BadBlocks):
            Routine(41, [*many, "x", (0, 1)])
        with self.assertRaises(BadJump) as caught:
            Routine(40, [*many, "x", (0, 1)])
        self.assertEqual(caught.exception.at, 130)
        with self.assertRaises(BadJump) as caught:
            Routine(40, [*many, (0, 1), "x"])
        self.assertEqual(caught.exception.at, 130)

    def test_arguments_by_name(self):
        self.assertEqual(Routine(jumps=[(0, 1)], blocks=2), Routine(2, [(0, 1)]))
        web = webs.diamond()
        self.assertEqual((web.ins(block=3), web.outs(block=0)), ([(1, 3), (2, 3)], [(0, 1), (0, 2)]))
        self.assertTrue(web.is_run(value=(0, 1, 3)))
        self.assertEqual(Routine.parse(text="blocks 2"), Routine(2, []))

    def test_interface(self):
        own = vars(Routine)
        for name in ["__init__", "__len__", "__contains__", "__eq__", "__str__", "ins", "outs", "is_run",
                     "how_many", "all_runs", "parse", "jumps"]:
            self.assertIn(name, own)
        self.assertIsInstance(own["jumps"], property)
        self.assertIsInstance(own["parse"], staticmethod)
        self.assertTrue(inspect.isgeneratorfunction(Routine.all_runs))
        self.assertEqual(Routine.__module__, routines.__name__)


class JumpsTest(unittest.TestCase):
    def test_membership(self):
        web = webs.diamond()
        for jump in webs.all_pairs(4):
            self.assertIs(jump in web, jump in webs.DIAMOND_JUMPS)

    def test_membership_of_any_value(self):
        web = webs.diamond()
        for value in webs.odd_values():
            with self.subTest(value):
                self.assertIs(value in web, False)

    def test_ins_and_outs(self):
        for web in webs.all_webs(4):
            for block in range(4):
                self.assertEqual(web.ins(block), [jump for jump in web.jumps if jump[1] == block])
                self.assertEqual(web.outs(block), [jump for jump in web.jumps if jump[0] == block])

    def test_ins_and_outs_ascend(self):
        web = Routine(5, [(3, 4), (0, 4), (2, 4), (0, 2), (0, 3), (0, 1)])
        self.assertEqual(web.ins(4), [(0, 4), (2, 4), (3, 4)])
        self.assertEqual(web.outs(0), [(0, 1), (0, 2), (0, 3), (0, 4)])

    def test_no_block(self):
        web = webs.diamond()
        for value in [*webs.odd_values(), 4, -1, -4, (0, 1)]:
            for ask in [web.ins, web.outs]:
                with self.subTest(value), self.assertRaises(NoBlock) as caught:
                    ask(value)
                self.assertIs(caught.exception.block, value)

    def test_equal(self):
        web = webs.diamond()
        self.assertTrue(web == Routine(4, webs.DIAMOND_JUMPS[::-1]))
        self.assertFalse(web != Routine(4, webs.DIAMOND_JUMPS[::-1]))
        self.assertFalse(web == Routine(4, webs.DIAMOND_JUMPS[:3]))
        self.assertFalse(web == Routine(5, webs.DIAMOND_JUMPS))
        self.assertTrue(web != Routine(5, webs.DIAMOND_JUMPS))
        self.assertFalse(Routine(2, []) == Routine(3, []))

    def test_same_number_of_other_jumps_is_unequal(self):
        self.assertFalse(Routine(4, [(0, 1), (1, 3)]) == Routine(4, [(0, 2), (2, 3)]))

    def test_other_objects_are_unequal(self):
        web = Routine(3, [(0, 1)])
        for value in webs.odd_values():
            with self.subTest(value):
                self.assertIs(web == value, False)
                self.assertIs(web != value, True)
        self.assertIs(web == [(0, 1)], False)
        self.assertIs(web == (3, [(0, 1)]), False)


class RunsTest(unittest.TestCase):
    def test_all_small_routines(self):
        for blocks in [2, 3, 4, 5]:
            for web in webs.all_webs(blocks):
                runs = webs.slow_runs(blocks, web.jumps)
                self.assertEqual(list(web.all_runs()), runs)
                self.assertEqual(web.how_many(), len(runs))

    def test_is_run_for_all_small_tuples(self):
        web = Routine(5, [(0, 1), (0, 4), (1, 2), (1, 4), (2, 4), (2, 3)])
        runs = webs.slow_runs(5, web.jumps)
        self.assertEqual(runs, [(0, 1, 2, 4), (0, 1, 4), (0, 4)])
        for value in webs.subsets(range(5)):
            self.assertIs(web.is_run(tuple(value)), tuple(value) in runs)
            self.assertIs(web.is_run(tuple(value[::-1])), False)
            self.assertIs(web.is_run(value), False)

    def test_is_run_of_any_value(self):
        web = webs.diamond()
        for value in webs.odd_values():
            with self.subTest(value):
                self.assertIs(web.is_run(value), False)

    def test_bools_are_no_blocks_of_a_run(self):
        web = Routine(3, [(0, 1), (1, 2)])
        self.assertIs(web.is_run((0, 1, 2)), True)
        for value in [(False, 1, 2), (0, True, 2), (False, True, 2)]:
            self.assertIs(web.is_run(value), False)
        self.assertIs(Routine(2, [(0, 1)]).is_run((0, True)), False)

    def test_blocks_and_jumps_on_no_run(self):
        web = Routine(6, [(0, 1), (0, 2), (1, 5), (3, 5), (3, 4)])
        self.assertEqual((list(web.all_runs()), web.how_many()), ([(0, 1, 5)], 1))
        self.assertEqual((web.ins(3), web.outs(4), web.ins(2)), ([], [], [(0, 2)]))

    def test_run_of_two_and_of_forty_blocks(self):
        self.assertEqual(list(Routine(2, [(0, 1)]).all_runs()), [(0, 1)])
        chain = Routine(40, [(block, block + 1) for block in range(39)])
        self.assertEqual(list(chain.all_runs()), [tuple(range(40))])
        self.assertTrue(chain.is_run(tuple(range(40))))
        self.assertFalse(chain.is_run(tuple(range(39))))

    def test_billions_of_runs(self):
        web = webs.ladder()
        with webs.within(10):
            many = web.how_many()
            first = list(islice(web.all_runs(), 4))
        self.assertEqual(many, webs.ladder_runs())
        self.assertGreater(many, 10 ** 9)
        base = tuple(range(36))
        self.assertEqual(first, [base + rest for rest in
                                 [(36, 37, 38, 39), (36, 37, 39), (36, 38, 39), (36, 39)]])

    def test_billions_of_ways_that_lead_nowhere(self):
        web = webs.ladder_to_nowhere()
        with webs.within(10):
            self.assertEqual((list(web.all_runs()), web.how_many()), ([(0, 39)], 1))

    def test_all_runs_are_told_one_by_one(self):
        runs = webs.diamond().all_runs()
        self.assertTrue(inspect.isgenerator(runs))
        self.assertEqual([next(runs), next(runs), next(runs, None)], [(0, 1, 3), (0, 2, 3), None])


class CopiesTest(unittest.TestCase):
    def test_handed_in_list_changed_later(self):
        jumps = [(0, 1), (1, 2)]
        web = Routine(3, jumps)
        jumps.append((0, 2))
        jumps[0] = "x"
        self.assertEqual((web.jumps, len(web), web.how_many()), ([(0, 1), (1, 2)], 2, 1))
        self.assertTrue((0, 1) in web and (0, 2) not in web)

    def test_handed_in_list_stays_as_it_is(self):
        jumps = [(1, 2), (0, 1)]
        Routine(3, jumps)
        self.assertEqual(jumps, [(1, 2), (0, 1)])
        jumps = [(1, 2), "x", (0, 1)]
        self.assertRaises(BadJump, Routine, 3, jumps)
        self.assertEqual(jumps, [(1, 2), "x", (0, 1)])

    def test_told_lists_changed_later(self):
        web = webs.diamond()
        for ask in [lambda: web.jumps, lambda: web.ins(3), lambda: web.outs(0), lambda: list(web.all_runs())]:
            told = ask()
            before = list(told)
            told.clear()
            self.assertEqual(ask(), before)
            self.assertIsNot(ask(), ask())
        self.assertEqual(list(web.all_runs()), [(0, 1, 3), (0, 2, 3)])
        self.assertEqual(str(web), "blocks 4\n0 1\n0 2\n1 3\n2 3")

    def test_errors_change_nothing(self):
        web = webs.diamond()
        for value in webs.odd_values():
            self.assertRaises(NoBlock, web.ins, value)
            self.assertRaises(NoBlock, web.outs, value)
        self.assertEqual((web.blocks, web.jumps, web.how_many()), (4, webs.DIAMOND_JUMPS, 2))


if __name__ == "__main__":
    unittest.main()
