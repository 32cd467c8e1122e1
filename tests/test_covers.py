"""Points 3, 23, 24, 27, 36 and 37: covers, lifted runs and parts, watched blocks, sums."""

import unittest
from itertools import product

from runledger.bounds import greatest, least
from runledger.counts import Counts
from runledger.covers import Cover
from runledger.errors import BadCover, NoRun, NotInner, OtherRoutine, TooLarge
from runledger.ledgers import Ledger
from runledger.parts import Part
from runledger.routines import Routine
from tests import covering, search, webs
from tests.webs import BIG

NAMES = [0, 1, 2, 3, 3, 4, 5, 6]
JUMPS = [(0, 1), (0, 2), (1, 3), (2, 4), (3, 5), (3, 6), (4, 5), (4, 6), (5, 7), (6, 7)]


def is_cover(base, names, jumps):
    try:
        Cover(base, names, jumps)
        return True
    except BadCover:
        return False


class MakingTest(unittest.TestCase):
    def test_cover(self):
        cover = Cover(webs.double(), NAMES, JUMPS[::-1])
        self.assertEqual((cover.names, cover.fine.blocks, cover.fine.jumps), (NAMES, 8, JUMPS))
        self.assertTrue(cover.base == webs.double())
        self.assertIsInstance(cover.fine, Routine)

    def check_words(self, base, names, jumps):
        told = is_cover(base, names, jumps)
        self.assertIs(told, covering.slow_is_cover(base, names, jumps))
        return told

    def test_all_covers_of_three_blocks(self):
        """All names and all sets of jumps, of up to four fine blocks, by the words of point 23."""
        found = 0
        for base in webs.all_webs(3):
            for blocks in [1, 2, 3, 4]:
                for names in product(range(3), repeat=blocks):
                    for jumps in webs.subsets(webs.all_pairs(blocks)):
                        found += self.check_words(base, list(names), jumps)
        self.assertGreater(found, 20)

    def test_names_of_four_blocks(self):
        found = 0
        for base in [webs.diamond(), webs.full_web(4), Routine(4, [(0, 2), (1, 2), (2, 3)])]:
            for inner in product(range(4), repeat=3):
                names = [0, *inner, 3]
                jumps = [(u, v) for u, v in webs.all_pairs(5) if (names[u], names[v]) in base]
                self.check_words(base, names, jumps)
                for barred in webs.subsets(jumps):
                    if len(barred) < 3:
                        found += self.check_words(base, names, [jump for jump in jumps if jump not in barred])
        self.assertGreater(found, 20)

    def test_names_in_any_order_and_blocks_that_are_not_there(self):
        base = Routine(5, [(0, 1), (0, 2), (1, 4), (2, 4), (3, 4)])
        self.assertTrue(is_cover(base, [0, 2, 1, 4], [(0, 1), (0, 2), (1, 3), (2, 3)]))
        self.assertTrue(is_cover(base, [0, 3, 2, 3, 1, 4], [(0, 2), (0, 4), (1, 5), (2, 5), (3, 5), (4, 5)]))
        self.assertFalse(is_cover(base, [0, 3, 2, 4], [(0, 2), (1, 3), (2, 3)]))

    def test_of_any_values(self):
        base = webs.diamond()
        self.assertTrue(is_cover(base, [0, 1, 2, 3], base.jumps))
        for value in webs.odd_values():
            for at in range(4):
                names = [0, 1, 2, 3]
                names[at] = value
                self.assertFalse(is_cover(base, names, base.jumps))
                jumps = base.jumps
                jumps[at] = value
                self.assertFalse(is_cover(base, [0, 1, 2, 3], jumps))
            self.assertFalse(is_cover(base, [0, 1, 2, 3], [*base.jumps, value]))
            self.assertFalse(is_cover(base, [0, 1, 2, 3, value], base.jumps))
            self.assertFalse(is_cover(base, [value], [value]))

    def test_bools_are_no_names_and_no_blocks(self):
        base = webs.diamond()
        for names in [[False, 1, 2, 3], [0, True, 2, 3]]:
            self.assertFalse(is_cover(base, names, base.jumps))
        for jump in [(False, 1), (0, True), [0, 1]]:
            self.assertFalse(is_cover(base, [0, 1, 2, 3], [jump, *base.jumps[1:]]))

    def test_a_jump_named_again(self):
        base = webs.diamond()
        self.assertFalse(is_cover(base, [0, 1, 2, 3], [*base.jumps, (0, 1)]))
        self.assertFalse(is_cover(base, [0, 1, 2, 3], [*base.jumps[1:], (1, 3)]))

    def test_bounds_of_a_fine_routine(self):
        base = Routine(3, [(1, 2)])
        self.assertTrue(is_cover(base, [0, *[1] * 38, 2], [(block, 39) for block in range(1, 39)]))
        self.assertFalse(is_cover(base, [0, *[1] * 39, 2], [(block, 40) for block in range(1, 40)]))
        self.assertFalse(is_cover(base, [], []))
        self.assertFalse(is_cover(base, [0], []))
        # From each of so many copies of block 1 lead four jumps.
        for base, copies, fits in [(Routine(6, [(1, 2), (1, 3), (1, 4), (1, 5)]), 30, True),
                                   (Routine(6, [(1, 2), (1, 3), (1, 4), (1, 5)]), 31, False),
                                   (Routine(6, [(0, 2), (1, 2), (1, 3), (1, 4), (1, 5)]), 30, False)]:
            names = [0, *[1] * copies, 2, 3, 4, 5]
            jumps = [(u, v) for u, v in webs.all_pairs(len(names)) if (names[u], names[v]) in base]
            self.assertEqual(len(jumps) <= 120, fits)
            self.assertEqual(is_cover(base, names, jumps), fits)

    def test_equality(self):
        base = webs.diamond()
        known = [Cover.plain(base), Cover.watching(base, [1]), Cover(base, [0, 2, 1, 3], base.jumps),
                 Cover.plain(webs.double()), Cover(webs.double(), NAMES, JUMPS),
                 Cover(webs.double(), NAMES, sorted([(0, 1), (0, 2), (1, 4), (2, 3), *JUMPS[4:]])),
                 Cover.plain(Routine(4, base.jumps[1:])), Cover(Routine(4, [(1, 3)]), [0, 1, 1, 3], [(1, 3), (2, 3)])]
        same = [[0, 1], [2], [3], [4], [5], [6], [7]]
        for at, one in enumerate(known):
            for place, other in enumerate(known):
                equal = any(at in row and place in row for row in same)
                self.assertIs(one == other, equal)
                self.assertIs(one != other, not equal)
        # The bases differ in a jump from a block that is not there.
        fine = [[0, 2, 3], [(0, 1), (1, 2)]]
        one, other = [Cover(Routine(4, [(0, 2), *more, (2, 3)]), *fine) for more in [[], [(1, 3)]]]
        self.assertIs(one == other, False)
        for value in [*webs.odd_values(), webs.diamond(), NAMES]:
            self.assertIs(known[0] == value, False)
            self.assertIs(known[0] != value, True)
        self.assertTrue(Cover(Routine(4, base.jumps[::-1]), [0, 1, 2, 3], base.jumps[::-1]) == known[0])


class PlainTest(unittest.TestCase):
    def test_plain(self):
        for web in [*webs.all_webs(4), webs.ladder(), Routine(40, webs.all_pairs(40)[:120]), *webs.bare_webs()]:
            cover = Cover.plain(web)
            self.assertEqual((cover.names, cover.fine.jumps), (list(range(web.blocks)), web.jumps))
            self.assertTrue(cover.base == web and cover.fine == web)
            self.assertTrue(cover == Cover(web, list(range(web.blocks)), web.jumps))


class WatchingTest(unittest.TestCase):
    def check(self, base, watched):
        cover = Cover.watching(base, watched)
        names, jumps = covering.slow_watching(base, watched)
        self.assertEqual((cover.names, cover.fine.jumps), (names, sorted(jumps)))
        self.assertTrue(cover.base == base)
        self.assertTrue(covering.slow_is_cover(base, cover.names, cover.fine.jumps))
        return cover

    def test_all_watched_blocks_of_small_routines(self):
        for base in [*webs.all_webs(4), webs.double(), webs.web_with_dead_ends(), webs.full_web(5), webs.chain()]:
            for watched in webs.subsets(range(1, base.blocks - 1)):
                if base.blocks < 10 or len(watched) in (1, 3, 8):
                    self.check(base, watched)

    def test_no_block(self):
        for base in [webs.double(), webs.ladder(), *webs.bare_webs()]:
            self.assertTrue(Cover.watching(base, []) == Cover.plain(base))
            self.assertTrue(Cover.watching(base, ()) == Cover.plain(base))

    def test_order_and_repeats_do_not_count(self):
        base = webs.full_web(5)
        cover = Cover.watching(base, [1, 2, 3])
        for blocks in [(3, 2, 1), [2, 3, 1, 2, 2], (1, 1, 2, 3, 3)]:
            self.assertTrue(Cover.watching(base, blocks) == cover)

    def test_a_block_to_which_no_jump_leads(self):
        base = Routine(4, [(0, 1), (1, 3), (2, 3)])
        cover = self.check(base, [2])
        self.assertEqual((cover.names, cover.fine.jumps), ([0, 1, 3], [(0, 1), (1, 2)]))

    def test_counts_are_those_of_pairs_of_jumps(self):
        base = webs.double()
        cover = Cover.watching(base, [3])
        entries = [((0, 1, 3, 4, 6), 6), ((0, 2, 3, 4, 6), 1), ((0, 2, 3, 5, 6), 3)]
        counts = cover.lift_ledger(Ledger(base, entries)).counts()
        self.assertEqual(counts.pairs, [((0, 1), 6), ((0, 2), 4), ((1, 3), 6), ((2, 4), 4), ((3, 5), 6), ((4, 5), 1),
                                        ((4, 6), 3), ((5, 7), 7), ((6, 7), 3)])

    def test_not_inner(self):
        base = webs.diamond()
        for value in [*[value for value in webs.odd_values() if value not in [1, 2]], 0, 3, 4, -1, True, False, (1,)]:
            for blocks in [[value], (value,), [1, value, "later"], [2, 1, value, 0]]:
                with self.subTest(value), self.assertRaises(NotInner) as caught:
                    Cover.watching(base, blocks)
                self.assertIs(caught.exception.block, value)

    def check_too_large(self, base, watched, bound):
        with self.assertRaises(TooLarge) as caught:
            Cover.watching(base, watched)
        self.assertEqual(caught.exception.bound, bound)

    def test_bound_of_blocks(self):
        """A block to which so many jumps lead becomes so many blocks."""
        for many in [18, 19]:
            base = Routine(22, [*[(u, 20) for u in range(many)], (20, 21)])
            self.assertEqual(self.check(base, [20]).fine.blocks, 21 + many)
        base = Routine(22, [*[(u, 20) for u in range(20)], (20, 21)])
        self.check_too_large(base, [20], 40)
        self.check_too_large(webs.ladder(), [5], 40)
        self.check_too_large(webs.ladder(), list(range(1, 39)), 40)
        self.assertEqual(self.check(Routine(40, [(u, u + 1) for u in range(39)]), list(range(1, 39))).fine.blocks, 40)

    def test_bound_of_jumps(self):
        """The block 10, watched, is there ten times, with eleven jumps from each."""
        jumps = [*[(u, 10) for u in range(10)], *[(10, v) for v in range(11, 22)]]
        self.assertEqual(len(self.check(Routine(30, jumps), [10]).fine), 120)
        self.check_too_large(Routine(30, [*jumps, (28, 29)]), [10], 120)
        self.check_too_large(Routine(30, [*jumps, (10, 29)]), [10], 120)

    def test_too_many_blocks_come_before_too_many_jumps(self):
        jumps = [*[(u, 20) for u in range(20)], *[(20, v) for v in range(21, 40)]]
        self.check_too_large(Routine(40, jumps), [20], 40)

    def test_no_inner_block_comes_before_both(self):
        self.assertRaises(NotInner, Cover.watching, webs.ladder(), [*range(1, 39), 39])


class LiftTest(unittest.TestCase):
    def test_runs_and_lifted_runs_are_one_to_one(self):
        for base in [webs.full_web(4), webs.double(), webs.web_with_dead_ends(), webs.full_web(5)]:
            for cover in covering.some_covers(base):
                runs, fine = list(base.all_runs()), list(cover.fine.all_runs())
                lifted = [cover.lift(run) for run in runs]
                self.assertEqual(sorted(lifted), fine)
                self.assertEqual(len(set(lifted)), len(runs))
                for run, other in zip(runs, lifted):
                    self.assertIsInstance(other, tuple)
                    self.assertEqual(other, covering.slow_lift(cover.names, cover.fine.jumps, run))
                    self.assertEqual(tuple(cover.names[block] for block in other), run)
                    self.assertEqual(cover.name(other), run)

    def test_no_run(self):
        cover = Cover.watching(webs.diamond(), [1])
        base, fine = Routine(4, webs.DIAMOND_JUMPS), Cover.plain(webs.double()).copied(3, [(1, 3)])
        for value in [*webs.odd_values(), (0, 3), (0, 1, 2, 3), [0, 1, 3], 0]:
            for call in [cover.lift, cover.name]:
                with self.subTest(value), self.assertRaises(NoRun) as caught:
                    call(value)
                self.assertIs(caught.exception.run, value)
        self.assertTrue(cover.fine == base)
        self.assertRaises(NoRun, fine.lift, (0, 1, 4, 5, 7))
        self.assertRaises(NoRun, fine.name, (0, 1, 3, 4, 6))
        self.assertEqual(fine.name((0, 1, 4, 5, 7)), (0, 1, 3, 4, 6))

    def test_parts(self):
        for base in [webs.full_web(4), webs.double(), webs.web_with_dead_ends()]:
            runs = list(base.all_runs())
            for cover in covering.some_covers(base)[::2]:
                lifted = [cover.lift(run) for run in runs]
                for jumps in list(webs.subsets(base.jumps))[::7]:
                    part = cover.lift_part(Part(base, jumps))
                    self.assertIsInstance(part, Part)
                    self.assertTrue(part.routine == cover.fine)
                    self.assertEqual(part.jumps, [(u, v) for u, v in cover.fine.jumps
                                                  if (cover.names[u], cover.names[v]) in jumps])
                    kept = [set(webs.pairs_of(run)) <= set(jumps) for run in runs]
                    self.assertEqual([part(run) for run in lifted], kept)

    def test_ledgers(self):
        for base in [webs.full_web(4), webs.double()]:
            for cover in covering.some_covers(base)[::2]:
                for entries in search.few_runs(base, 2):
                    lifted = cover.lift_ledger(Ledger(base, entries))
                    self.assertTrue(lifted.routine == cover.fine)
                    self.assertEqual(lifted.entries, covering.lifted(cover, entries))
                    named = cover.name_ledger(lifted)
                    self.assertTrue(named.routine == base)
                    self.assertEqual(named.entries, entries)

    def test_order_of_runs_can_be_another_one(self):
        """The names stand in another order than the blocks, and so do the runs."""
        base = webs.diamond()
        cover = Cover(base, [0, 2, 1, 3], base.jumps)
        ledger = Ledger(base, [((0, 1, 3), 5), ((0, 2, 3), 7)])
        self.assertEqual(cover.lift_ledger(ledger).entries, [((0, 1, 3), 7), ((0, 2, 3), 5)])
        self.assertTrue(cover.name_ledger(cover.lift_ledger(ledger)) == ledger)

    def test_sums(self):
        for base in [webs.full_web(4), webs.double(), webs.web_with_dead_ends()]:
            for cover in covering.some_covers(base)[::2]:
                for entries in search.few_runs(cover.fine, 2):
                    counts = Ledger(cover.fine, entries).counts()
                    sums = cover.sums(counts)
                    self.assertIsInstance(sums, Counts)
                    self.assertTrue(sums.routine == base)
                    self.assertEqual(sums.pairs, covering.slow_sums(cover, counts.pairs))
                    self.assertTrue(sums == cover.name_ledger(Ledger(cover.fine, entries)).counts())
                    self.assertTrue(sums == Counts(base, sums.pairs))

    def test_sums_beyond_what_can_be_named(self):
        base = webs.double()
        cover = Cover.watching(base, [3])
        self.assertEqual(cover.sums(Counts(cover.fine, [])).pairs, [])
        ledger = Ledger(cover.fine, [((0, 1, 3, 5, 7), BIG), ((0, 2, 4, 5, 7), BIG)]) * 9
        sums = cover.sums(ledger.counts())
        self.assertEqual(sums.pairs, [((0, 1), 9 * BIG), ((0, 2), 9 * BIG), ((1, 3), 9 * BIG), ((2, 3), 9 * BIG),
                                      ((3, 4), 18 * BIG), ((4, 6), 18 * BIG)])
        self.assertEqual(cover.name_ledger(ledger).entries, [((0, 1, 3, 4, 6), 9 * BIG), ((0, 2, 3, 4, 6), 9 * BIG)])
        self.assertTrue(cover.lift_ledger(cover.name_ledger(ledger)) == ledger)

    def test_other_routine(self):
        cover = Cover(webs.double(), NAMES, JUMPS)
        for web in [webs.diamond(), Routine(8, JUMPS[1:]), Routine(7, webs.DOUBLE_JUMPS[1:])]:
            for call, thing in [(cover.lift_part, Part(web, [])), (cover.lift_ledger, Ledger(web, [])),
                                (cover.name_ledger, Ledger(web, [])), (cover.sums, Counts(web, []))]:
                self.assertRaises(OtherRoutine, call, thing)
        self.assertRaises(OtherRoutine, cover.lift_part, Part(cover.fine, []))
        self.assertRaises(OtherRoutine, cover.lift_ledger, Ledger(cover.fine, []))
        self.assertRaises(OtherRoutine, cover.name_ledger, Ledger(cover.base, []))
        self.assertRaises(OtherRoutine, cover.sums, Counts(cover.base, []))
        turned, fine = Routine(7, webs.DOUBLE_JUMPS[::-1]), Routine(8, JUMPS[::-1])
        self.assertEqual(cover.lift_part(Part(turned, [(1, 3)])).jumps, [(1, 3)])
        self.assertEqual(cover.lift_ledger(Ledger(turned, [])).entries, [])
        self.assertEqual(cover.name_ledger(Ledger(fine, [])).entries, [])
        self.assertEqual(cover.sums(Counts(fine, [])).pairs, [])


class NumbersTest(unittest.TestCase):
    """Point 27, and the main fact of point 2 on covers."""

    def check(self, base, cover, most, parts):
        by_sums = {}
        for entries in search.few_runs(base, most):
            sums = tuple(sorted(search.jump_counts(entries).items()))
            fine = tuple(sorted(search.jump_counts(covering.lifted(cover, entries)).items()))
            by_sums.setdefault(sums, {}).setdefault(fine, []).append(entries)
        for sums, by_fine in by_sums.items():
            for part in parts:
                self.check_numbers(cover, Counts(base, list(sums)), by_fine, part)

    def check_numbers(self, cover, sums, by_fine, part):
        allowed, lifted = set(), cover.lift_part(part)
        for fine, ledgers in by_fine.items():
            counts = Counts(cover.fine, list(fine))
            numbers = {search.kept(entries, part.jumps) for entries in ledgers}
            self.assertEqual(numbers, set(range(least(counts, lifted)[0], greatest(counts, lifted)[0] + 1)))
            self.assertTrue(cover.sums(counts) == sums)
            allowed |= numbers
        self.assertEqual(allowed, set(range(least(sums, part)[0], greatest(sums, part)[0] + 1)))

    def test_small_routines(self):
        for base in [webs.full_web(4), Routine(5, [(0, 1), (0, 2), (1, 2), (1, 3), (2, 3), (2, 4), (3, 4)])]:
            parts = [Part(base, jumps) for jumps in list(webs.subsets(base.jumps))[::5]]
            for cover in covering.some_covers(base):
                self.check(base, cover, 2, parts)

    def test_double_diamond(self):
        base = webs.double()
        parts = [Part.through(base, items) for items in [[1, 4], [1, 5], [(0, 2), 4], [3]]]
        for cover in covering.some_covers(base)[::4]:
            self.check(base, cover, 3, parts)


class CopiesTest(unittest.TestCase):
    def test_handed_in_lists_changed_later(self):
        names, jumps, watched = list(NAMES), list(JUMPS), [3]
        cover, other = Cover(webs.double(), names, jumps), Cover.watching(webs.double(), watched)
        names.clear()
        jumps.clear()
        watched.append(1)
        for told in [cover, other]:
            self.assertEqual((told.names, told.fine.jumps), (NAMES, JUMPS))
            self.assertEqual(told.lift((0, 1, 3, 4, 6)), (0, 1, 3, 5, 7))

    def test_handed_in_lists_stay_as_they_are(self):
        names, jumps, watched = list(NAMES), JUMPS[::-1], [4, 1, 1]
        Cover(webs.double(), names, jumps)
        Cover.watching(webs.double(), watched)
        self.assertEqual((names, jumps, watched), (NAMES, JUMPS[::-1], [4, 1, 1]))

    def test_told_lists_changed_later(self):
        cover = Cover.watching(webs.double(), [3])
        cover.names.clear()
        cover.fine.jumps.clear()
        self.assertEqual((cover.names, cover.fine.jumps), (NAMES, JUMPS))
        self.assertIsNot(cover.names, cover.names)

    def test_equal_things_made_otherwise(self):
        turned = Routine(7, webs.DOUBLE_JUMPS[::-1])
        covers = [Cover.watching(turned, [3]), Cover(turned, NAMES, JUMPS[::-1]), Cover(webs.double(), NAMES, JUMPS)]
        for cover in covers:
            self.assertTrue(cover == covers[0])
            self.assertEqual([cover.lift(run) for run in turned.all_runs()], list(cover.fine.all_runs()))


class LargeTest(unittest.TestCase):
    def test_billions_of_runs(self):
        with webs.within(20):
            for base in [webs.ladder(), webs.wide_ladder()]:
                cover = Cover.plain(base)
                counts = webs.big_counts(base) * 9
                self.assertTrue(cover.sums(counts) == counts)
            base = Routine(30, [(u, v) for u in range(30) for v in (u + 1, u + 2) if v < 30])
            cover = Cover.watching(base, [4, 8, 12, 16, 20, 24, 27])
            self.assertEqual(cover.fine.how_many(), base.how_many())
            counts = webs.big_counts(cover.fine) * 9
            for part in [Part.through(base, items) for items in [[4, 12], [(7, 8), (8, 10), 20], [(3, 5), 27]]]:
                self.check_part(cover, counts, part)

    def check_part(self, cover, counts, part):
        fine, sums = cover.lift_part(part), cover.sums(counts)
        self.assertEqual(fine.how_many(), part.how_many())
        low, high = least(counts, fine)[0], greatest(counts, fine)[0]
        self.assertTrue(least(sums, part)[0] <= low <= high <= greatest(sums, part)[0])


if __name__ == "__main__":
    unittest.main()
