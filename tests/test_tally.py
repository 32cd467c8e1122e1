"""Points 3, 9, 35, 36 and 37 and the interface of Tally in runledger/counts.py."""

import unittest

from runledger.counts import Counts, Tally
from runledger.errors import BadCount, BadNumber, NoJump, OtherRoutine, Uneven
from runledger.ledgers import Ledger
from runledger.routines import Routine
from tests import search, webs
from tests.webs import BIG


def set_to(web, pairs):
    tally = Tally(web)
    for jump, number in pairs:
        tally[jump] = number
    return tally


def numbers_of(tally, web):
    return [tally[jump] for jump in web.jumps]


class SettingTest(unittest.TestCase):
    def test_at_first_all_0(self):
        for web in [webs.double(), webs.web_with_dead_ends(), *webs.bare_webs()]:
            tally = Tally(web)
            self.assertEqual(numbers_of(tally, web), [0] * len(web))
            self.assertEqual(tally.uneven(), [])
            self.assertTrue(tally.counts() == Counts(web, []))

    def test_set_and_asked(self):
        web = webs.diamond()
        tally = set_to(web, [((1, 3), 4), ((0, 1), BIG), ((1, 3), 0), ((2, 3), 7)])
        self.assertEqual(numbers_of(tally, web), [BIG, 0, 0, 7])
        tally[(0, 1)] = 3
        self.assertEqual(numbers_of(tally, web), [3, 0, 0, 7])

    def test_no_jump(self):
        web = webs.diamond()
        tally = set_to(web, [((0, 1), 5)])
        for value in [*webs.odd_values(), (0, 3), (1, 2), 0, [0, 1]]:
            for number in [1, -1, None]:
                with self.subTest(value), self.assertRaises(NoJump) as caught:
                    tally[value] = number
                self.assertIs(caught.exception.jump, value)
            with self.subTest(value), self.assertRaises(NoJump) as caught:
                tally[value]
            self.assertIs(caught.exception.jump, value)
        self.assertEqual(numbers_of(tally, web), [5, 0, 0, 0])

    def test_bad_number(self):
        web = webs.diamond()
        tally = set_to(web, [((0, 1), 5)])
        values = [value for value in webs.odd_values() if value not in (41, 120) or isinstance(value, bool)]
        for value in [*values, -1, BIG + 1, 10 ** 39, True, False, None, "1", [1], (1,)]:
            with self.subTest(value), self.assertRaises(BadNumber):
                tally[(0, 1)] = value
        self.assertEqual(numbers_of(tally, web), [5, 0, 0, 0])

    def test_uneven(self):
        web = webs.full_web(4)
        for numbers in [[(k // 3 ** at) % 3 for at in range(6)] for k in range(3 ** 6)]:
            pairs = list(zip(web.jumps, numbers))
            tally = set_to(web, pairs)
            uneven = [block for block in (1, 2) if sum(n for jump, n in pairs if jump[1] == block)
                      != sum(n for jump, n in pairs if jump[0] == block)]
            self.assertEqual(tally.uneven(), uneven)
            if uneven:
                with self.assertRaises(Uneven) as caught:
                    tally.counts()
                self.assertEqual(caught.exception.block, uneven[0])
            else:
                self.assertTrue(tally.counts() == Counts(web, pairs))

    def test_uneven_is_ascending_and_of_inner_blocks(self):
        tally = set_to(webs.double(), [((5, 6), 1), ((0, 2), 1), ((3, 4), 1)])
        self.assertEqual(tally.uneven(), [2, 3, 4, 5])
        with self.assertRaises(Uneven) as caught:
            tally.counts()
        self.assertEqual(caught.exception.block, 2)

    def test_set_until_even(self):
        web = webs.diamond()
        tally = set_to(web, [((0, 1), 2)])
        self.assertEqual(tally.uneven(), [1])
        self.assertRaises(Uneven, tally.counts)
        tally[(1, 3)] = 2
        self.assertEqual((tally.uneven(), tally.counts().pairs), ([], [((0, 1), 2), ((1, 3), 2)]))


class AddingTest(unittest.TestCase):
    def test_counts_are_added(self):
        web = webs.full_web(4)
        tally, total = Tally(web), Counts(web, [])
        for counts in search.few_counts(web, 2):
            before = tally
            tally += counts
            total = total + counts
            self.assertIs(tally, before)
            self.assertEqual(numbers_of(tally, web), [total[jump] for jump in web.jumps])
            self.assertTrue(tally.counts() == total)

    def test_added_to_uneven_numbers(self):
        web = webs.diamond()
        tally = set_to(web, [((0, 1), 2), ((0, 2), 1)])
        tally += Counts(web, [((0, 2), 3), ((2, 3), 3)])
        self.assertEqual((numbers_of(tally, web), tally.uneven()), ([2, 4, 0, 3], [1, 2]))

    def test_sums_beyond_what_can_be_named(self):
        web = Routine(2, [(0, 1)])
        tally, counts = Tally(web), Counts(web, [((0, 1), BIG)])
        for _ in range(3):
            tally += counts
        self.assertEqual((tally[(0, 1)], tally.counts().total), (3 * BIG, 3 * BIG))
        tally += 9 * counts
        self.assertEqual(tally.counts().pairs, [((0, 1), 12 * BIG)])
        with self.assertRaises(BadNumber):
            tally[(0, 1)] = 3 * BIG
        with self.assertRaises(BadCount):
            Counts(web, tally.counts().pairs)

    def test_other_routine(self):
        web = webs.diamond()
        tally = set_to(web, [((0, 1), 2)])
        for other in [Routine(4, webs.DIAMOND_JUMPS[1:]), Routine(5, webs.DIAMOND_JUMPS), webs.double()]:
            with self.assertRaises(OtherRoutine):
                tally += Counts(other, [])
        self.assertEqual(numbers_of(tally, web), [2, 0, 0, 0])
        tally += Counts(Routine(4, webs.DIAMOND_JUMPS[::-1]), [((0, 1), 2), ((1, 3), 2)])
        self.assertEqual(numbers_of(tally, web), [4, 0, 2, 0])

    def test_nothing_else_is_added(self):
        web = webs.diamond()
        tally = Tally(web)
        for value in [None, 1, [1], Tally(web), Ledger(web, []), web]:
            with self.subTest(value), self.assertRaises(TypeError):
                tally += value
        self.assertEqual(numbers_of(tally, web), [0, 0, 0, 0])


class CopiesTest(unittest.TestCase):
    def test_counts_do_not_change_with_the_tally(self):
        web = webs.diamond()
        tally = set_to(web, [((0, 1), 2), ((1, 3), 2)])
        counts = tally.counts()
        tally[(0, 1)] = 5
        tally += counts
        self.assertEqual(counts.pairs, [((0, 1), 2), ((1, 3), 2)])
        self.assertEqual(numbers_of(tally, web), [7, 0, 4, 0])

    def test_tally_does_not_change_the_added_counts(self):
        web = webs.diamond()
        counts = Counts(web, [((0, 1), 2), ((1, 3), 2)])
        tally = Tally(web)
        tally += counts
        tally[(0, 1)] = 9
        self.assertEqual(counts.pairs, [((0, 1), 2), ((1, 3), 2)])

    def test_two_tallies(self):
        web = webs.diamond()
        one, other = Tally(web), Tally(web)
        one[(0, 1)] = 2
        self.assertEqual(numbers_of(other, web), [0, 0, 0, 0])

    def test_told_lists_changed_later(self):
        tally = set_to(webs.diamond(), [((0, 1), 2)])
        tally.uneven().clear()
        self.assertEqual(tally.uneven(), [1])
        self.assertIsNot(tally.uneven(), tally.uneven())

    def test_interface(self):
        own = vars(Tally)
        for name in ["__init__", "__getitem__", "__setitem__", "__iadd__", "uneven", "counts"]:
            self.assertIn(name, own)
        self.assertEqual(Tally(routine=webs.diamond()).uneven(), [])


if __name__ == "__main__":
    unittest.main()
