"""Points 3, 6, 7, 36 and 37 and the interface of Part in runledger/parts.py."""

import inspect
import unittest
from itertools import islice

from runledger import parts
from runledger.errors import NoItem, NoJump, NoRun, OtherRoutine
from runledger.parts import Part
from runledger.routines import Routine
from tests import webs


def all_parts(web):
    return [Part(web, jumps) for jumps in webs.subsets(web.jumps)]


def slow_kept(part):
    return webs.slow_runs(part.routine.blocks, part.jumps)


class MakingTest(unittest.TestCase):
    def test_jumps(self):
        web = webs.diamond()
        part = Part(web, [(2, 3), (0, 1), (2, 3), (0, 1), (0, 2)])
        self.assertEqual(part.jumps, [(0, 1), (0, 2), (2, 3)])
        self.assertEqual(part.routine, web)
        self.assertEqual((Part(web, []).jumps, Part(web, web.jumps).jumps), ([], web.jumps))

    def test_jumps_of_any_value(self):
        web = webs.diamond()
        for value in [*webs.odd_values(), (0, 3), (1, 2), (0, 4), 0, 3]:
            with self.subTest(value), self.assertRaises(NoJump) as caught:
                Part(web, [(0, 1), value, (1, 2), "later"])
            self.assertIs(caught.exception.jump, value)

    def test_membership(self):
        web = webs.diamond()
        part = Part(web, [(0, 1), (2, 3)])
        for jump in webs.all_pairs(4):
            self.assertIs(jump in part, jump in [(0, 1), (2, 3)])
        for value in webs.odd_values():
            with self.subTest(value):
                self.assertIs(value in part, False)

    def test_keeps_to_it(self):
        for web in [webs.full_web(4), webs.web_with_dead_ends()]:
            for part in all_parts(web):
                kept = slow_kept(part)
                for run in web.all_runs():
                    self.assertIs(part(run), run in kept)

    def test_no_run(self):
        part = Part(webs.diamond(), [(0, 1), (1, 3)])
        for value in [*webs.odd_values(), (0, 3), (0, 1, 2, 3), [0, 1, 3]]:
            with self.subTest(value), self.assertRaises(NoRun) as caught:
                part(value)
            self.assertIs(caught.exception.run, value)

    def test_arguments_by_name(self):
        web = webs.diamond()
        part = Part(routine=web, jumps=[(0, 1), (1, 3)])
        self.assertTrue(part(run=(0, 1, 3)))
        self.assertEqual(part.kept_run_by(jump=(1, 3)), (0, 1, 3))
        self.assertIsNone(part.not_in(other=part))
        self.assertEqual(Part.through(routine=web, items=[1], barred=[2]), part)
        self.assertEqual(parts.closed(routine=web, runs=[(0, 1, 3)]), ("part", part))
        with self.assertRaises(TypeError):
            Part.through(web, [1], [2])

    def test_interface(self):
        own = vars(Part)
        for name in ["__init__", "__call__", "__contains__", "__bool__", "__and__", "__or__", "__le__", "__eq__",
                     "reduced", "how_many", "kept_runs", "kept_run_by", "not_in", "through", "jumps"]:
            self.assertIn(name, own)
        self.assertIsInstance(own["jumps"], property)
        self.assertIsInstance(own["through"], staticmethod)
        self.assertTrue(inspect.isgeneratorfunction(Part.kept_runs))
        self.assertEqual((Part.__module__, parts.closed.__module__), (parts.__name__, parts.__name__))


class RunsOfPartsTest(unittest.TestCase):
    def test_all_parts_of_small_routines(self):
        for web in [webs.full_web(4), webs.web_with_dead_ends(), *webs.bare_webs()]:
            for part in all_parts(web):
                kept = slow_kept(part)
                made = {jump for run in kept for jump in webs.pairs_of(run)}
                self.assertEqual(list(part.kept_runs()), kept)
                self.assertEqual(part.how_many(), len(kept))
                self.assertIs(bool(part), bool(kept))
                self.assertEqual(part.reduced().jumps, sorted(made))
                self.assertEqual(part.reduced().routine, web)
                self.assertEqual(slow_kept(part.reduced()), kept)

    def test_kept_run_by(self):
        for web in [webs.full_web(4), webs.web_with_dead_ends()]:
            for part in all_parts(web):
                kept = slow_kept(part)
                for jump in web.jumps:
                    by = [run for run in kept if jump in webs.pairs_of(run)]
                    self.assertIn(part.kept_run_by(jump), by or [None])

    def test_kept_run_by_no_jump(self):
        part = Part(webs.diamond(), [(0, 1), (1, 3)])
        self.assertIsNone(part.kept_run_by((0, 2)))
        for value in [*webs.odd_values(), (0, 3), (1, 2), 1]:
            with self.subTest(value), self.assertRaises(NoJump) as caught:
                part.kept_run_by(value)
            self.assertIs(caught.exception.jump, value)

    def test_a_jump_on_no_run(self):
        web = webs.web_with_dead_ends()
        part = Part(web, [(3, 4), (0, 4)])
        self.assertEqual((part.jumps, part.how_many(), bool(part)), ([(0, 4), (3, 4)], 0, False))
        self.assertIsNone(Part(web, web.jumps).kept_run_by((3, 5)))
        self.assertEqual(Part(web, web.jumps).reduced().jumps, [(0, 1), (0, 2), (1, 2), (1, 5), (2, 5)])

    def test_billions_of_runs(self):
        web = webs.ladder()
        with webs.within(20):
            everything = Part(web, web.jumps)
            part = Part(web, [jump for jump in web.jumps if jump != (38, 39)])
            without = Part.through(web, [], barred=[(38, 39)])
            by = Part.through(web, [(38, 39)])
            self.assertEqual(everything.how_many(), webs.ladder_runs())
            self.assertEqual(part.how_many() + by.how_many(), webs.ladder_runs())
            self.assertEqual(without.how_many(), part.how_many())
            self.assertGreater(part.how_many(), 10 ** 9)
            base = tuple(range(36))
            first = [base + rest for rest in [(36, 37, 39), (36, 39), (37, 39)]]
            self.assertEqual(list(islice(part.kept_runs(), 3)), first)
            self.assertTrue(part and part <= everything and part == without)
            self.assertFalse(everything <= part)
            self.assertEqual(everything.not_in(part)[-2:], (38, 39))
            self.assertTrue(part(part.kept_run_by((0, 3))))
            self.assertEqual((part | by).reduced(), everything)
            self.assertEqual((part & by).how_many(), 0)

    def test_billions_of_ways_that_lead_nowhere(self):
        web = webs.ladder()
        with webs.within(10):
            part = Part(web, [jump for jump in web.jumps if jump[1] < 39])
            self.assertEqual((list(part.kept_runs()), part.how_many(), bool(part)), ([], 0, False))
            web = webs.ladder_to_nowhere()
            part = Part(web, web.jumps)
            self.assertEqual((list(part.kept_runs()), part.how_many(), bool(part)), ([(0, 39)], 1, True))
            self.assertEqual((part.reduced().jumps, part.kept_run_by((0, 1))), ([(0, 39)], None))


class TwoPartsTest(unittest.TestCase):
    def setUp(self):
        self.pairs = []
        for web in [webs.full_web(4), webs.web_with_dead_ends()]:
            known = [(part, slow_kept(part)) for part in all_parts(web)]
            self.pairs.extend((one, other) for one in known for other in known[::3])

    def test_order_and_equality(self):
        for (one, kept), (other, others) in self.pairs:
            self.assertIs(one <= other, set(kept) <= set(others))
            self.assertIs(other <= one, set(others) <= set(kept))
            self.assertIs(one == other, kept == others)
            self.assertIs(one != other, kept != others)

    def test_not_in(self):
        for (one, kept), (other, others) in self.pairs:
            leaving = [run for run in kept if run not in others]
            self.assertIn(one.not_in(other), leaving or [None])

    def test_and_or(self):
        for (one, _), (other, _) in self.pairs:
            both, either = one & other, one | other
            self.assertEqual(both.jumps, [jump for jump in one.routine.jumps if jump in one and jump in other])
            self.assertEqual(either.jumps, [jump for jump in one.routine.jumps if jump in one or jump in other])
            self.assertEqual((both.routine, either.routine), (one.routine, one.routine))

    def test_and_or_change_neither(self):
        web = webs.diamond()
        one, other = Part(web, [(0, 1), (1, 3)]), Part(web, [(0, 2), (1, 3)])
        self.assertEqual(((one & other).jumps, (one | other).jumps), ([(1, 3)], [(0, 1), (0, 2), (1, 3)]))
        self.assertEqual((one.jumps, other.jumps), ([(0, 1), (1, 3)], [(0, 2), (1, 3)]))

    def test_equal_by_runs_not_by_jumps(self):
        web = webs.web_with_dead_ends()
        self.assertTrue(Part(web, [(0, 1), (1, 5)]) == Part(web, [(0, 1), (1, 5), (0, 4), (3, 5)]))
        self.assertTrue(Part(web, []) == Part(web, [(0, 1), (2, 5)]))
        self.assertTrue(Part(web, [(0, 1), (2, 5)]) <= Part(web, []))

    def test_other_routine(self):
        one, other = Part(webs.diamond(), [(0, 1)]), Part(Routine(5, webs.DIAMOND_JUMPS), [(0, 1)])
        for use in [lambda: one & other, lambda: one | other, lambda: one.not_in(other)]:
            self.assertRaises(OtherRoutine, use)
        self.assertIs(one <= other, False)
        self.assertIs(one == other, False)
        self.assertIs(one != other, True)
        self.assertIs(Part(webs.diamond(), []) <= Part(Routine(4, []), []), False)
        self.assertIs(Part(webs.diamond(), []) == Part(Routine(4, []), []), False)

    def test_equal_routine_that_is_another_object(self):
        one = Part(webs.diamond(), [(0, 1), (1, 3)])
        other = Part(Routine(4, webs.DIAMOND_JUMPS[::-1]), [(1, 3), (0, 1)])
        self.assertTrue(one == other and one <= other and one & other == one and one | other == one)
        self.assertIsNone(one.not_in(other))

    def test_other_objects_are_unequal(self):
        part = Part(webs.double(), [(0, 1)])
        for value in [*webs.odd_values(), part.routine, part.jumps]:
            with self.subTest(value):
                self.assertIs(part == value, False)
                self.assertIs(part != value, True)


class ThroughTest(unittest.TestCase):
    def check_through(self, web, items, barred):
        part = Part.through(web, items, barred=barred)
        kept = [run for run in webs.slow_runs(web.blocks, web.jumps)
                if all(webs.has(run, item) for item in items) and not any(webs.has(run, item) for item in barred)]
        self.assertEqual(list(part.kept_runs()), kept)
        self.assertEqual(part.jumps, sorted({jump for run in kept for jump in webs.pairs_of(run)}))
        self.assertEqual(part.routine, web)

    def test_one_item_and_one_barred(self):
        for web in [webs.full_web(4), webs.web_with_dead_ends(), webs.double(), webs.full_web(5)]:
            items = [*range(web.blocks), *web.jumps]
            self.check_through(web, [], [])
            for item in items:
                self.check_through(web, [item], [])
                self.check_through(web, (), (item,))
                for other in items:
                    self.check_through(web, [item], [other])
                    self.check_through(web, (item, other), [])
                    self.check_through(web, [], [item, other])

    def test_many_items(self):
        web = webs.double()
        items = [*range(1, 6), *web.jumps]
        for chosen in webs.subsets(items[::2]):
            for barred in webs.subsets(items[1::3]):
                self.check_through(web, chosen, barred)

    def test_items_in_any_order_and_again(self):
        web = webs.double()
        part = Part.through(web, [(3, 5), 1, 0, 1, (3, 5)], barred=(2, (0, 2), 2))
        self.assertEqual(part.jumps, [(0, 1), (1, 3), (3, 5), (5, 6)])

    def test_no_item(self):
        web = webs.diamond()
        for value in [*webs.odd_values(), 4, -1, (0, 3), (1, 2)]:
            for use in [lambda: Part.through(web, [0, value, "later"]),
                        lambda: Part.through(web, (0, (0, 1), value), barred=["later"]),
                        lambda: Part.through(web, [1], barred=[2, value, "later"]),
                        lambda: Part.through(web, (), barred=(value,))]:
                with self.subTest(value), self.assertRaises(NoItem) as caught:
                    use()
                self.assertIs(caught.exception.item, value)


class CopiesTest(unittest.TestCase):
    def test_handed_in_lists_changed_later(self):
        web = webs.diamond()
        jumps = [(1, 3), (0, 1)]
        part = Part(web, jumps)
        jumps.append((0, 2))
        jumps[0] = "x"
        items, barred = [1], [2]
        through = Part.through(web, items, barred=barred)
        items.append("x")
        barred[0] = 1
        for one in [part, through]:
            self.assertEqual((one.jumps, one.how_many(), one((0, 1, 3))), ([(0, 1), (1, 3)], 1, True))
            self.assertFalse((0, 2) in one)

    def test_handed_in_lists_stay_as_they_are(self):
        web = webs.diamond()
        jumps, items, barred, runs = [(1, 3), (0, 1), (1, 3)], [3, 1], [2, (0, 2)], [(0, 2, 3), (0, 1, 3)]
        Part(web, jumps), Part.through(web, items, barred=barred), parts.closed(web, runs)
        self.assertEqual((jumps, items), ([(1, 3), (0, 1), (1, 3)], [3, 1]))
        self.assertEqual((barred, runs), ([2, (0, 2)], [(0, 2, 3), (0, 1, 3)]))

    def test_told_lists_changed_later(self):
        part = Part(webs.diamond(), [(0, 1), (1, 3)])
        told, reduced = part.jumps, part.reduced()
        told.append((0, 2))
        reduced.jumps.clear()
        part.routine.jumps.clear()
        self.assertEqual((part.jumps, reduced.jumps), ([(0, 1), (1, 3)], [(0, 1), (1, 3)]))
        self.assertIsNot(part.jumps, part.jumps)
        self.assertEqual((list(part.kept_runs()), part.routine.how_many()), ([(0, 1, 3)], 2))

    def test_errors_change_nothing(self):
        part = Part(webs.diamond(), [(0, 1), (1, 3)])
        other = Part(webs.double(), [(0, 1)])
        for value in webs.odd_values():
            self.assertRaises(NoRun, part, value)
            self.assertRaises(NoJump, part.kept_run_by, value)
        self.assertRaises(OtherRoutine, part.not_in, other)
        self.assertEqual((part.jumps, part.how_many(), other.jumps), ([(0, 1), (1, 3)], 1, [(0, 1)]))

    def test_choice_does_not_hang_on_the_order_of_naming(self):
        jumps = webs.all_pairs(5)
        web, turned = Routine(5, jumps), Routine(5, jumps[::-1])
        part, other = Part(web, jumps), Part(turned, jumps[5:] + jumps[:5])
        first = [part.kept_run_by(jump) for jump in jumps]
        self.assertEqual([other.kept_run_by(jump) for jump in jumps], first)
        less = Part(web, jumps[2:6])
        self.assertEqual(part.not_in(less), other.not_in(Part(turned, jumps[5:1:-1])))
        list(part.kept_runs()), part.not_in(less), part.reduced()
        self.assertEqual([part.kept_run_by(jump) for jump in jumps], first)


if __name__ == "__main__":
    unittest.main()
