"""Points 3, 9, 35, 36 and 37 and the interface of Counts in runledger/counts.py."""

import unittest

from runledger import counts as counts_file
from runledger.counts import Counts, Tally
from runledger.errors import BadCount, NoBlock, NoJump, OtherRoutine, Uneven
from runledger.parts import Part
from runledger.routines import Routine
from tests import search, webs
from tests.webs import BIG


def diamond_counts(first=2, second=1):
    return Counts(webs.diamond(), [((0, 1), first), ((1, 3), first), ((0, 2), second), ((2, 3), second)])


def not_counts():
    """Values that are no tuple of a jump of the diamond and a count that may be named."""
    values = [value for value in webs.odd_values() if value != ((0, 1), 1)]
    jumps = [(0, 3), (1, 2), (1, 0), (0, 4), (-4, 1), (0, True), (False, 1), [0, 1], 0, (0, 1, 3)]
    numbers = [-1, BIG + 1, 10 ** 39, -BIG, True, False, None, "1", "", (1,), [1], (), ((0, 1), 1)]
    return [*values, *[(jump, 1) for jump in jumps], *[((0, 1), number) for number in numbers],
            [(0, 1), 1], ((0, 1),), ((0, 1), 1, 1), (1, (0, 1)), (((0, 1), 1),), (0, 1, 1), (0, 1), "01",
            ((0, 1), diamond_counts()), ((0, 1), webs.diamond())]


class MakingTest(unittest.TestCase):
    def test_pairs_and_total(self):
        counts = diamond_counts()
        self.assertEqual(counts.pairs, [((0, 1), 2), ((0, 2), 1), ((1, 3), 2), ((2, 3), 1)])
        self.assertEqual((counts.total, counts.routine), (3, webs.diamond()))
        self.assertIsInstance(counts.routine, Routine)

    def test_jumps_that_are_not_named_or_named_with_0(self):
        pairs = [((2, 3), 4), ((0, 1), 0), ((0, 2), 4)]
        counts = Counts(webs.diamond(), pairs)
        self.assertEqual(counts.pairs, [((0, 2), 4), ((2, 3), 4)])
        self.assertEqual([counts[jump] for jump in webs.DIAMOND_JUMPS], [0, 4, 0, 4])
        self.assertEqual((counts.total, counts.load(1), counts.load(2)), (4, 0, 4))

    def test_total_0(self):
        for web in [webs.diamond(), webs.web_with_dead_ends(), *webs.bare_webs()]:
            for pairs in [[], [(jump, 0) for jump in web.jumps]]:
                counts = Counts(web, pairs)
                self.assertEqual((counts.pairs, counts.total), ([], 0))
                self.assertEqual([counts.load(block) for block in range(web.blocks)], [0] * web.blocks)

    def test_two_blocks(self):
        counts = Counts(Routine(2, [(0, 1)]), [((0, 1), 7)])
        self.assertEqual((counts.total, counts.load(0), counts.load(1)), (7, 7, 7))

    def test_loads_of_few_runs(self):
        for web in [webs.full_web(4), webs.web_with_dead_ends(), webs.double()]:
            for entries in search.few_runs(web, 3):
                counts = Counts(web, list(search.jump_counts(entries).items()))
                self.assertEqual(counts.total, sum(times for _, times in entries))
                self.assertEqual(counts.pairs, sorted(search.jump_counts(entries).items()))
                for block in range(web.blocks):
                    passing = sum(times for run, times in entries if block in run)
                    self.assertEqual(counts.load(block), passing)

    def test_greatest_counts(self):
        counts = diamond_counts(BIG, BIG)
        self.assertEqual((counts.total, counts.load(3), counts.load(1), counts[(0, 1)]), (2 * BIG, 2 * BIG, BIG, BIG))

    def test_bad_count(self):
        web = webs.diamond()
        for value in not_counts():
            for named in [[], [((0, 2), 1)], [((0, 2), 0), ((2, 3), 1)]]:
                with self.subTest(value, named=named), self.assertRaises(BadCount) as caught:
                    Counts(web, [*named, value, "later"])
                self.assertEqual(caught.exception.at, len(named))

    def test_a_jump_again(self):
        web = webs.diamond()
        for first, second in [(1, 1), (0, 0), (0, 1), (1, 0)]:
            with self.assertRaises(BadCount) as caught:
                Counts(web, [((0, 1), first), ((1, 3), 1), ((0, 1), second), "later"])
            self.assertEqual(caught.exception.at, 2)

    def test_uneven(self):
        web = webs.double()
        cases = [([((0, 1), 1)], 1), ([((0, 2), 1), ((2, 3), 1)], 3), ([((4, 6), 2)], 4), ([((1, 3), 2)], 1),
                 ([((0, 2), 1), ((0, 1), 2), ((1, 3), 2)], 2), ([((5, 6), BIG), ((3, 5), BIG - 1)], 3),
                 ([((0, 1), 5), ((1, 3), 5), ((3, 5), 5), ((5, 6), 4)], 5)]
        for pairs, block in cases:
            for named in [pairs, pairs[::-1]]:
                with self.subTest(named), self.assertRaises(Uneven) as caught:
                    Counts(web, named)
                self.assertEqual(caught.exception.block, block)

    def test_uneven_at_blocks_on_no_run(self):
        web = webs.web_with_dead_ends()
        for jump, block in [((3, 5), 3), ((0, 4), 4), ((3, 4), 3)]:
            with self.assertRaises(Uneven) as caught:
                Counts(web, [(jump, 1)])
            self.assertEqual(caught.exception.block, block)

    def test_all_numbers_of_a_small_routine(self):
        web = webs.full_web(4)
        for numbers in [[(k // 3 ** at) % 3 for at in range(6)] for k in range(3 ** 6)]:
            pairs = list(zip(web.jumps, numbers))
            uneven = [block for block in (1, 2) if sum(n for jump, n in pairs if jump[1] == block)
                      != sum(n for jump, n in pairs if jump[0] == block)]
            if uneven:
                with self.assertRaises(Uneven) as caught:
                    Counts(web, pairs)
                self.assertEqual(caught.exception.block, uneven[0])
            else:
                counts = Counts(web, pairs)
                self.assertEqual(counts.total, numbers[0] + numbers[1] + numbers[2])
                self.assertEqual(counts.pairs, [pair for pair in pairs if pair[1]])

    def test_bad_count_before_uneven(self):
        with self.assertRaises(BadCount) as caught:
            Counts(webs.diamond(), [((0, 1), 1), ((0, 2), -1)])
        self.assertEqual(caught.exception.at, 1)

    def test_arguments_by_name(self):
        counts = Counts(pairs=[((0, 1), 1)], routine=Routine(2, [(0, 1)]))
        self.assertEqual((counts.load(block=0), counts.total), (1, 1))

    def test_interface(self):
        own = vars(Counts)
        for name in ["__init__", "__getitem__", "__add__", "__mul__", "__rmul__", "__eq__", "load", "pairs", "total"]:
            self.assertIn(name, own)
        self.assertIsInstance(own["pairs"], property)
        self.assertIsInstance(own["total"], property)
        self.assertEqual((Counts.__module__, Tally.__module__), (counts_file.__name__, counts_file.__name__))


class AskingTest(unittest.TestCase):
    def test_no_jump(self):
        counts = diamond_counts()
        for value in [*webs.odd_values(), (0, 3), (1, 2), 0, 3, [0, 1]]:
            with self.subTest(value), self.assertRaises(NoJump) as caught:
                counts[value]
            self.assertIs(caught.exception.jump, value)

    def test_no_block(self):
        counts = diamond_counts()
        for value in [*webs.odd_values(), 4, -1, (0, 1), [0]]:
            with self.subTest(value), self.assertRaises(NoBlock) as caught:
                counts.load(value)
            self.assertIs(caught.exception.block, value)

    def test_equality(self):
        known = search.few_counts(webs.full_web(4), 2)
        for at, one in enumerate(known):
            for place, other in enumerate(known):
                self.assertIs(one == other, at == place)
                self.assertIs(one != other, at != place)

    def test_equal_things_made_otherwise(self):
        pairs = diamond_counts().pairs
        for named in [pairs[::-1], pairs[2:] + pairs[:2]]:
            other = Counts(Routine(4, webs.DIAMOND_JUMPS[::-1]), named)
            self.assertTrue(other == diamond_counts())
            self.assertEqual(other.pairs, pairs)
        small = [((0, 2), 1), ((2, 3), 1)]
        self.assertTrue(Counts(webs.diamond(), small) == Counts(webs.diamond(), [*small, ((0, 1), 0), ((1, 3), 0)]))

    def test_other_routine_is_unequal(self):
        less = Routine(4, [*webs.DIAMOND_JUMPS, (0, 3)])
        self.assertIs(diamond_counts() == Counts(less, diamond_counts().pairs), False)
        self.assertIs(Counts(Routine(4, []), []) == Counts(Routine(5, []), []), False)

    def test_other_objects_are_unequal(self):
        counts = diamond_counts(5, 5)
        part = Part(webs.diamond(), webs.DIAMOND_JUMPS)
        for value in [*webs.odd_values(), counts.pairs, counts.routine, part, Tally(webs.diamond()), 10]:
            with self.subTest(value):
                self.assertIs(counts == value, False)
                self.assertIs(counts != value, True)


class AddingTest(unittest.TestCase):
    def test_sums(self):
        known = search.few_counts(webs.full_web(4), 2)
        for one in known:
            for other in known:
                added = one + other
                self.assertIsInstance(added, Counts)
                self.assertEqual([added[jump] for jump in one.routine.jumps],
                                 [one[jump] + other[jump] for jump in one.routine.jumps])
                self.assertEqual(added.total, one.total + other.total)
                self.assertTrue(added == other + one and added == Counts(one.routine, added.pairs))

    def test_times(self):
        for counts in search.few_counts(webs.double(), 2):
            added = Counts(counts.routine, [])
            for times in range(13):
                for product in [times * counts, counts * times]:
                    self.assertIsInstance(product, Counts)
                    self.assertTrue(product == added)
                    self.assertEqual(product.pairs, added.pairs)
                added = added + counts

    def test_sums_beyond_what_can_be_named(self):
        counts = diamond_counts(BIG, 1)
        added = counts + counts
        self.assertEqual((added[(0, 1)], added.total, added.load(1)), (2 * BIG, 2 * BIG + 2, 2 * BIG))
        many = added
        for _ in range(20):
            many = 9 * many
        self.assertEqual(many[(1, 3)], 2 * BIG * 9 ** 20)
        self.assertTrue(many + many == many * 2)
        self.assertEqual(many.pairs[0], ((0, 1), 2 * BIG * 9 ** 20))
        with self.assertRaises(BadCount):
            Counts(webs.diamond(), added.pairs)

    def test_operands_stay_as_they_are(self):
        one, other = diamond_counts(2, 1), diamond_counts(5, 0)
        one + other, 3 * one, one * 0
        self.assertTrue(one == diamond_counts(2, 1) and other == diamond_counts(5, 0))
        added = one
        added += other
        self.assertTrue(added == diamond_counts(7, 1) and one == diamond_counts(2, 1))

    def test_other_routine(self):
        for web in [Routine(4, [*webs.DIAMOND_JUMPS, (1, 2)]), Routine(4, webs.DIAMOND_JUMPS[1:]), webs.double()]:
            other = Counts(web, [])
            self.assertRaises(OtherRoutine, lambda: diamond_counts() + other)
            self.assertRaises(OtherRoutine, lambda: other + diamond_counts())

    def test_equal_routine_that_is_another_object(self):
        turned = Counts(Routine(4, webs.DIAMOND_JUMPS[::-1]), diamond_counts(1, 0).pairs)
        self.assertTrue(diamond_counts() + turned == diamond_counts(3, 1))

    def test_nothing_else_is_added_or_multiplied(self):
        for value in [None, "a", [1], (), webs.diamond(), Tally(webs.diamond())]:
            with self.subTest(value):
                self.assertRaises(TypeError, lambda: diamond_counts() + value)
                self.assertRaises(TypeError, lambda: diamond_counts() * value)
                self.assertRaises(TypeError, lambda: value * diamond_counts())


class CopiesTest(unittest.TestCase):
    def test_handed_in_lists_changed_later(self):
        pairs = [((0, 1), 2), ((1, 3), 2)]
        counts = Counts(webs.diamond(), pairs)
        pairs.append(((0, 2), 1))
        pairs[0] = ((0, 1), 9)
        self.assertEqual((counts.pairs, counts.total), ([((0, 1), 2), ((1, 3), 2)], 2))

    def test_handed_in_lists_stay_as_they_are(self):
        pairs = [((1, 3), 2), ((0, 2), 0), ((0, 1), 2)]
        Counts(webs.diamond(), pairs)
        self.assertEqual(pairs, [((1, 3), 2), ((0, 2), 0), ((0, 1), 2)])

    def test_told_lists_changed_later(self):
        counts = diamond_counts()
        counts.pairs.clear()
        counts.routine.jumps.clear()
        self.assertEqual((len(counts.pairs), counts.total), (4, 3))
        self.assertIsNot(counts.pairs, counts.pairs)

    def test_errors_change_nothing(self):
        counts = diamond_counts()
        for value in webs.odd_values():
            self.assertRaises(NoJump, lambda: counts[value])
            self.assertRaises(NoBlock, counts.load, value)
        self.assertRaises(OtherRoutine, lambda: counts + Counts(webs.double(), []))
        self.assertTrue(counts == diamond_counts())


if __name__ == "__main__":
    unittest.main()
