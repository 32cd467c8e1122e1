"""Points 3, 25, 26, 36 and 37: blocks copied and made one, covers one behind another, new numbers."""

import unittest

from runledger.counts import Counts
from runledger.covers import Cover, new_numbers
from runledger.errors import BadIns, NoJump, NotInner, NotTwins, OtherRoutine, TooLarge
from runledger.ledgers import Ledger
from runledger.routines import Routine
from tests import covering, search, webs
from tests.webs import BIG


def double_counts():
    return Counts(webs.double(), list(zip(webs.DOUBLE_JUMPS, [6, 4, 6, 4, 7, 3, 7, 3])))


def proper_subsets(ins):
    """All choices of some of the jumps, not none and not all."""
    return [chosen for chosen in webs.subsets(ins) if 0 < len(chosen) < len(ins)]


def star(ins, outs, blocks, more=()):
    """A routine with a block 20 to which so many jumps lead, and from which so many lead on."""
    jumps = [*[(u, 20) for u in range(ins)], *[(20, v) for v in range(21, 21 + outs)], *more]
    return Routine(blocks, jumps)


class CopiedTest(unittest.TestCase):
    def check(self, cover, block, ins):
        copied = cover.copied(block, ins)
        names, jumps = covering.slow_copied(cover, block, ins)
        self.assertEqual((copied.names, copied.fine.jumps), (names, jumps))
        self.assertTrue(copied.base == cover.base)
        self.assertTrue(covering.slow_is_cover(cover.base, names, jumps))
        return copied

    def test_all_copies_of_small_covers(self):
        for base in [webs.full_web(4), webs.double(), webs.web_with_dead_ends(), webs.full_web(5)]:
            for cover in covering.some_covers(base):
                for block in range(1, cover.fine.blocks - 1):
                    for ins in proper_subsets(cover.fine.ins(block)):
                        self.check(cover, block, ins)

    def test_for_one_and_for_all_but_one(self):
        base = webs.full_web(6)
        ins = base.ins(4)
        for jump in ins:
            one = self.check(Cover.plain(base), 4, [jump])
            self.assertEqual([one.fine.ins(4), one.fine.ins(5)], [[j for j in ins if j != jump], [(jump[0], 5)]])
            rest = self.check(Cover.plain(base), 4, [other for other in ins if other != jump])
            self.assertEqual([rest.fine.ins(4), len(rest.fine.ins(5))], [[jump], 3])

    def test_until_each_way_has_its_own_copy(self):
        base = webs.full_web(4)
        cover = Cover.plain(base)
        for _ in range(9):
            for block in range(1, cover.fine.blocks - 1):
                if len(cover.fine.ins(block)) > 1:
                    cover = self.check(cover, block, cover.fine.ins(block)[1:])
                    break
        self.assertTrue(all(len(cover.fine.ins(block)) == 1 for block in range(1, cover.fine.blocks - 1)))
        self.assertEqual(cover.fine.how_many(), base.how_many())
        self.assertTrue(Cover.watching(base, [1, 2]).names == cover.names)

    def test_equal_jumps_count_once_in_any_order(self):
        cover = Cover.plain(webs.full_web(5))
        same = cover.copied(3, [(0, 3), (2, 3)])
        for ins in [[(2, 3), (0, 3)], [(0, 3), (2, 3), (2, 3), (0, 3)]]:
            self.assertTrue(cover.copied(3, ins) == same)

    def test_not_inner(self):
        cover = Cover.plain(webs.diamond())
        values = [value for value in webs.odd_values() if value not in [1, 2]]
        for value in [*values, 0, 3, 4, -1, True, False, (1,), [1], "1"]:
            for ins in [[], ["x"], [(0, 1)]]:
                with self.subTest(value), self.assertRaises(NotInner) as caught:
                    cover.copied(value, ins)
                self.assertIs(caught.exception.block, value)
                with self.subTest(value), self.assertRaises(NotInner) as caught:
                    new_numbers(Counts(webs.diamond(), []), value, ins)
                self.assertIs(caught.exception.block, value)

    def test_inner_blocks_are_those_of_the_fine_routine(self):
        cover = Cover.plain(webs.double()).copied(3, [(1, 3)])
        self.assertRaises(BadIns, cover.copied, 6, [])
        self.assertRaises(NotInner, cover.copied, 7, [])

    def test_no_jump(self):
        web = webs.full_web(4)
        values = [*webs.odd_values(), (0, 1), (1, 3), (2, 3), (0, True), (1, 2, 3), [0, 2], (0, 3), 2]
        for value in [value for value in values if value not in [(0, 2), (1, 2)]]:
            for ins in [[value], [(0, 2), value, "later"], [(0, 2), (1, 2), value], [value, value]]:
                with self.subTest(value), self.assertRaises(NoJump) as caught:
                    Cover.plain(web).copied(2, ins)
                self.assertIs(caught.exception.jump, value)
                with self.subTest(value), self.assertRaises(NoJump) as caught:
                    new_numbers(Counts(web, []), 2, ins)
                self.assertIs(caught.exception.jump, value)

    def test_bools_are_no_blocks_of_jumps(self):
        for value in [(True, 2), (False, 2)]:
            with self.assertRaises(NoJump) as caught:
                Cover.plain(webs.full_web(4)).copied(2, [value])
            self.assertIs(caught.exception.jump, value)

    def test_none_or_all_of_the_jumps(self):
        for base in [webs.full_web(5), webs.web_with_dead_ends(), Routine(3, [(1, 2)])]:
            cover = Cover.plain(base)
            for block in range(1, base.blocks - 1):
                for ins in [[], base.ins(block), base.ins(block)[::-1] * 2]:
                    self.assertRaises(BadIns, cover.copied, block, ins)
                    self.assertRaises(BadIns, new_numbers, Counts(base, []), block, ins)

    def check_too_large(self, base, ins, bound):
        for call in [Cover.plain(base).copied, lambda block, jumps: new_numbers(Counts(base, []), block, jumps)]:
            with self.assertRaises(TooLarge) as caught:
                call(20, ins)
            self.assertEqual(caught.exception.bound, bound)

    def test_bound_of_blocks(self):
        copied = self.check(Cover.plain(star(2, 2, 39)), 20, [(0, 20)])
        self.assertEqual(copied.fine.blocks, 40)
        self.check_too_large(star(2, 2, 40), [(0, 20)], 40)
        self.assertRaises(TooLarge, copied.copied, 22, [(20, 22)])

    def test_bound_of_jumps(self):
        """The copy brings ten more jumps."""
        more = [(u, v) for u, v in webs.all_pairs(20)][:98]
        base = star(2, 10, 39, more)
        self.assertEqual(len(base), 110)
        self.assertEqual(len(self.check(Cover.plain(base), 20, [(1, 20)]).fine), 120)
        self.check_too_large(star(3, 10, 39, more), [(1, 20)], 120)
        self.check_too_large(star(3, 10, 40, more), [(1, 20)], 40)

    def test_too_large_comes_last(self):
        base = star(2, 2, 40)
        self.assertRaises(NotInner, Cover.plain(base).copied, 0, [(0, 20)])
        self.assertRaises(NoJump, Cover.plain(base).copied, 20, [(0, 20), (2, 20)])
        self.assertRaises(BadIns, Cover.plain(base).copied, 20, [(0, 20), (1, 20)])


class MadeOneTest(unittest.TestCase):
    def slow_twins(self, cover, first, second):
        last = cover.fine.blocks - 1
        heads = [sorted(v for u, v in cover.fine.jumps if u == block) for block in (first, second)]
        inner = 0 < first < last and 0 < second < last
        return inner and first < second and cover.names[first] == cover.names[second] and heads[0] == heads[1]

    def check(self, cover, first, second):
        before = (cover.names, cover.fine.jumps)
        if not self.slow_twins(cover, first, second):
            self.assertRaises(NotTwins, cover.made_one, first, second)
            return 0
        names, jumps = covering.slow_made_one(cover, first, second)
        self.assertTrue(covering.slow_is_cover(cover.base, names, jumps))
        made = cover.made_one(first, second)
        self.assertEqual((made.names, made.fine.jumps), (names, jumps))
        self.assertTrue(made.base == cover.base)
        self.assertEqual((cover.names, cover.fine.jumps), before)
        return 1

    def test_all_pairs_of_blocks(self):
        found = 0
        for base in [webs.full_web(4), webs.double(), webs.web_with_dead_ends(), webs.full_web(5)]:
            for cover in covering.some_covers(base):
                for first in range(-1, cover.fine.blocks + 1):
                    for second in range(-1, cover.fine.blocks + 1):
                        found += self.check(cover, first, second)
        self.assertGreater(found, 40)

    def test_copies_are_twins(self):
        for base in [webs.full_web(5), webs.double()]:
            plain = Cover.plain(base)
            for block in range(1, base.blocks - 1):
                for ins in proper_subsets(base.ins(block)):
                    self.assertTrue(plain.copied(block, ins).made_one(block, block + 1) == plain)

    def test_twins_without_jumps_from_them(self):
        base = Routine(4, [(0, 1), (0, 3)])
        cover = Cover(base, [0, 1, 1, 3], [(0, 1), (0, 3)])
        self.assertEqual(cover.made_one(1, 2).names, [0, 1, 3])
        self.assertEqual(cover.made_one(1, 2).fine.jumps, [(0, 1), (0, 2)])

    def test_watched_blocks_made_one_again(self):
        base = webs.double()
        cover = Cover.watching(base, [3, 6 - 1, 4])
        self.assertTrue(cover.made_one(3, 4) == Cover.watching(base, [4, 5]))

    def test_of_any_values(self):
        cover = Cover.plain(webs.double()).copied(3, [(1, 3)])
        cover.made_one(3, 4)
        for value in [*webs.odd_values(), (3,), [3], "3", 3.0]:
            for first, second in [(value, 4), (3, value), (value, value)]:
                with self.subTest(value):
                    self.assertRaises(NotTwins, cover.made_one, first, second)
        plain = Cover(Routine(3, [(0, 1), (1, 2)]), [0, 1, 1, 2], [(0, 1), (1, 3), (2, 3)])
        plain.made_one(1, 2)
        self.assertRaises(NotTwins, plain.made_one, True, 2)
        self.assertRaises(NotTwins, plain.made_one, 2, 1)
        self.assertRaises(NotTwins, plain.made_one, 1, 1)


class ThenTest(unittest.TestCase):
    def check(self, one, other):
        both = one.then(other)
        self.assertTrue(both.base == one.base and both.fine == other.fine)
        self.assertEqual(both.names, [one.names[name] for name in other.names])
        self.assertTrue(covering.slow_is_cover(both.base, both.names, both.fine.jumps))
        for run in one.base.all_runs():
            self.assertEqual(both.lift(run), other.lift(one.lift(run)))

    def test_covers_one_behind_another(self):
        for base in [webs.full_web(4), webs.double(), webs.web_with_dead_ends()]:
            for one in covering.some_covers(base)[::3]:
                for other in covering.some_covers(one.fine)[::5] if one.fine.blocks < 12 else []:
                    self.check(one, other)

    def test_plain_covers_change_nothing(self):
        for cover in covering.some_covers(webs.double()):
            self.assertTrue(cover.then(Cover.plain(cover.fine)) == cover)
            self.assertTrue(Cover.plain(cover.base).then(cover) == cover)

    def test_copying_step_by_step(self):
        cover = Cover.watching(webs.double(), [3])
        self.assertTrue(cover.copied(5, [(3, 5)]) == cover.then(Cover.plain(cover.fine).copied(5, [(3, 5)])))

    def test_other_routine(self):
        cover = Cover.plain(webs.double()).copied(3, [(1, 3)])
        self.assertRaises(OtherRoutine, cover.then, cover)
        self.assertRaises(OtherRoutine, cover.then, Cover.plain(webs.double()))
        self.assertRaises(OtherRoutine, Cover.plain(webs.diamond()).then, Cover.plain(Routine(4, [(0, 1)])))
        turned = Routine(8, cover.fine.jumps[::-1])
        self.assertTrue(cover.then(Cover.plain(turned)) == cover)


class NewNumbersTest(unittest.TestCase):
    def check_shape(self, counts, block, ins):
        told = new_numbers(counts, block, ins)
        self.assertIsInstance(told, list)
        copied = Cover.plain(counts.routine).copied(block, ins)
        self.assertEqual([jump for jump, _, _ in told], copied.fine.jumps)
        self.assertTrue(all(isinstance(row, tuple) for row in told))
        return told, copied

    def check_all_ledgers(self, counts, block, ins):
        """Each jump has just the numbers that it has in the lifts of all ledgers that fit."""
        told, copied = self.check_shape(counts, block, ins)
        numbers = {jump: set() for jump, _, _ in told}
        for entries in search.fitting(counts):
            fine = search.jump_counts(covering.lifted(copied, entries))
            for jump in numbers:
                numbers[jump].add(fine.get(jump, 0))
        for jump, low, high in told:
            self.assertEqual(numbers[jump], set(range(low, high + 1)))

    def check_all_counts(self, counts, block, ins):
        """Each jump has just the numbers that it has in all counts with the given sums: only at the copy they vary."""
        told, copied = self.check_shape(counts, block, ins)
        heads = [v for u, v in counts.routine.jumps if u == block]
        moved = sum(counts[jump] for jump in ins)
        splits = [[]]
        for head in heads:
            splits = [[*split, often] for split in splits for often in range(counts[(block, head)] + 1)]
        splits = [split for split in splits if sum(split) == moved]
        wanted = []
        for u, v in copied.fine.jumps:
            names = (copied.names[u], copied.names[v])
            numbers = [counts[names]]
            if u == block + 1:
                numbers = [split[heads.index(names[1])] for split in splits]
            elif u == block:
                numbers = [counts[names] - split[heads.index(names[1])] for split in splits]
            wanted.append(((u, v), min(numbers), max(numbers)))
        self.assertEqual(told, wanted)

    def test_against_all_ledgers(self):
        for web, most in [(webs.full_web(4), 3), (webs.double(), 3), (webs.full_web(5), 2)]:
            for counts in search.few_counts(web, most):
                for block in range(1, web.blocks - 1):
                    for ins in proper_subsets(web.ins(block)):
                        self.check_all_ledgers(counts, block, ins)

    def test_against_all_counts(self):
        web = webs.full_web(6)
        runs = list(web.all_runs())
        for step in range(1, 12):
            times = [(step * at * at + 5 * at) % 4 for at in range(len(runs))]
            counts = Ledger(web, [(run, often) for run, often in zip(runs, times) if often]).counts()
            for block in [3, 4]:
                for ins in proper_subsets(web.ins(block)):
                    self.check_all_counts(counts, block, ins)

    def test_double_diamond(self):
        told = new_numbers(double_counts(), 3, [(1, 3)])
        self.assertEqual(told, [((0, 1), 6, 6), ((0, 2), 4, 4), ((1, 4), 6, 6), ((2, 3), 4, 4), ((3, 5), 1, 4),
                                ((3, 6), 0, 3), ((4, 5), 3, 6), ((4, 6), 0, 3), ((5, 7), 7, 7), ((6, 7), 3, 3)])

    def test_total_0(self):
        for base in [webs.double(), webs.full_web(5)]:
            for ins in proper_subsets(base.ins(3)):
                told, _ = self.check_shape(Counts(base, []), 3, ins)
                self.assertEqual({(low, high) for _, low, high in told}, {(0, 0)})

    def test_blocks_on_no_run(self):
        base = webs.web_with_dead_ends()
        counts = Counts(base, [((0, 1), 3), ((1, 5), 3)])
        told, _ = self.check_shape(counts, 4, [(3, 4)])
        self.assertEqual([(jump, low, high) for jump, low, high in told if high],
                         [((0, 1), 3, 3), ((1, 6), 3, 3)])

    def test_sums_beyond_what_can_be_named(self):
        counts = double_counts()
        for _ in range(40):
            counts = 9 * counts
        told = new_numbers(counts, 3, [(1, 3)])
        self.assertEqual(told[4:8], [((3, 5), 9 ** 40, 4 * 9 ** 40), ((3, 6), 0, 3 * 9 ** 40),
                                     ((4, 5), 3 * 9 ** 40, 6 * 9 ** 40), ((4, 6), 0, 3 * 9 ** 40)])

    def test_large(self):
        base = Routine(39, [(u, v) for u in range(39) for v in range(u + 1, min(u + 4, 39))])
        counts = webs.big_counts(base)
        for block in [3, 20, 37]:
            for ins in proper_subsets(base.ins(block)):
                told, copied = self.check_shape(counts, block, ins)
                for jump, low, high in told:
                    self.assertTrue(0 <= low <= high <= 60 * BIG)
                self.assertEqual(len(copied.names), 40)

    def test_equal_things_made_otherwise(self):
        told = new_numbers(double_counts(), 3, [(1, 3)])
        turned = Routine(7, webs.DOUBLE_JUMPS[::-1])
        for counts in [Counts(turned, double_counts().pairs[::-1]), *search.made_otherwise(double_counts())]:
            self.assertEqual(new_numbers(counts, 3, [(1, 3), (1, 3)]), told)
        new_numbers(double_counts(), 3, [(1, 3)]).clear()
        self.assertEqual(new_numbers(double_counts(), 3, [(1, 3)]), told)


class CopiesTest(unittest.TestCase):
    def test_handed_in_lists(self):
        cover, ins = Cover.plain(webs.full_web(5)), [(2, 3), (0, 3)]
        copied = cover.copied(3, ins)
        names, jumps = copied.names, copied.fine.jumps
        self.assertEqual(ins, [(2, 3), (0, 3)])
        ins.clear()
        self.assertEqual((copied.names, copied.fine.jumps), (names, jumps))
        self.assertTrue(cover == Cover.plain(webs.full_web(5)))

    def test_errors_change_nothing(self):
        cover = Cover.plain(webs.double()).copied(3, [(1, 3)])
        before = (cover.names, cover.fine.jumps)
        self.assertRaises(NotInner, cover.copied, 0, [])
        self.assertRaises(NoJump, cover.copied, 5, [(0, 1)])
        self.assertRaises(BadIns, cover.copied, 5, [])
        self.assertRaises(NotTwins, cover.made_one, 1, 2)
        self.assertRaises(OtherRoutine, cover.then, cover)
        self.assertEqual((cover.names, cover.fine.jumps), before)

    def test_arguments_by_name(self):
        cover = Cover(base=webs.double(), names=list(range(7)), jumps=list(webs.DOUBLE_JUMPS))
        self.assertTrue(cover == Cover.plain(routine=webs.double()))
        self.assertTrue(cover == Cover.watching(routine=webs.double(), blocks=[]))
        copied = cover.copied(block=3, ins=[(1, 3)])
        self.assertTrue(copied.made_one(first=3, second=4) == cover)
        self.assertTrue(copied.then(other=Cover.plain(copied.fine)) == copied)
        self.assertEqual(copied.name(run=copied.lift(run=(0, 1, 3, 4, 6))), (0, 1, 3, 4, 6))
        ledger = Ledger(webs.double(), [((0, 1, 3, 4, 6), 2)])
        lifted = copied.lift_ledger(ledger=ledger)
        self.assertTrue(copied.name_ledger(ledger=lifted) == ledger)
        self.assertTrue(copied.sums(counts=lifted.counts()) == ledger.counts())
        self.assertEqual(new_numbers(ins=[(1, 3)], block=3, counts=double_counts())[4], ((3, 5), 1, 4))


if __name__ == "__main__":
    unittest.main()
