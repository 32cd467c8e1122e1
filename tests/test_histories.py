"""Points 2 and 31 to 33: at every moment of many histories, what a recorder tells against a slow search."""

import unittest
from itertools import combinations, product

from runledger.errors import NotPossible
from runledger.ledgers import Ledger
from runledger.parts import Part
from runledger.recorder import Recorder
from runledger.routines import Routine
from tests import covering, histories, search, webs


class HistoriesTest(unittest.TestCase):
    def check(self, recorder, model, parts):
        self.check_state(recorder, model)
        ledgers = histories.possible_ledgers(model.web, model.watched, model.deeds())
        rows = [histories.possible_ledgers(model.web, model.watched, deeds) for deeds in model.pieces]
        self.assertIn(histories.entries_of(model.deeds())[0], ledgers)
        for part in parts:
            self.check_known(recorder, ledgers, part)
            self.check_pieces(recorder, rows, part)

    def check_state(self, recorder, model):
        entries, noted = histories.entries_of(model.deeds())
        cover = recorder.cover
        self.assertEqual(recorder.counts().pairs, sorted(search.jump_counts(entries).items()))
        self.assertEqual(recorder.fine_counts().pairs,
                         sorted(search.jump_counts(covering.lifted(cover, entries)).items()))
        self.assertEqual(recorder.noted().entries, noted)
        told = recorder.pieces()
        self.assertEqual(len(told), len(model.pieces))
        for (counts, ledger), deeds in zip(told, model.pieces):
            entries, noted = histories.entries_of(deeds)
            self.assertEqual(counts.pairs, sorted(search.jump_counts(covering.lifted(cover, entries)).items()))
            self.assertEqual(ledger.entries, noted)

    def check_known(self, recorder, ledgers, part):
        numbers = {histories.kept_in(recorder.cover, entries, part) for entries in ledgers}
        low, high = recorder.known(part)
        self.assertEqual(numbers, set(range(low, high + 1)))
        for number in numbers:
            ledger = recorder.example(part, number)
            self.assertIn(ledger.entries, ledgers)
            self.assertEqual(histories.kept_in(recorder.cover, ledger.entries, part), number)
        for number in [low - 1, high + 1]:
            with self.assertRaises(NotPossible) as caught:
                recorder.example(part, number)
            self.assertEqual((caught.exception.least, caught.exception.greatest), (low, high))

    def check_pieces(self, recorder, rows, part):
        kept = [{histories.kept_in(recorder.cover, entries, part) for entries in ledgers} for ledgers in rows]
        sums = {sum(chosen) for chosen in product(*kept)}
        low, high = recorder.known_by_pieces(part)
        self.assertEqual(sums, set(range(low, high + 1)))
        self.assertTrue(recorder.known(part)[0] <= low <= high <= recorder.known(part)[1])
        for number in sums:
            told = recorder.example_by_pieces(part, number)
            self.assertIsInstance(told, list)
            self.assertEqual(len(told), len(rows))
            for ledger, ledgers in zip(told, rows):
                self.assertIsInstance(ledger, Ledger)
                self.assertTrue(ledger.routine == recorder.routine)
                self.assertIn(ledger.entries, ledgers)
            self.assertEqual(sum(histories.kept_in(recorder.cover, ledger.entries, part) for ledger in told), number)
        for number in [low - 1, high + 1]:
            with self.assertRaises(NotPossible) as caught:
                recorder.example_by_pieces(part, number)
            self.assertEqual((caught.exception.least, caught.exception.greatest), (low, high))

    def some_parts(self, web, fine):
        """Parts of both routines: the runs that pass two blocks, those that pass just one of them, and others."""
        pairs = list(combinations(range(1, web.blocks - 1), 2))
        parts = [Part.through(web, pair) for pair in pairs]
        parts.extend(Part.through(web, [u], barred=[v]) for u, v in pairs)
        parts.extend(Part(web, jumps) for jumps in list(webs.subsets(web.jumps))[3::101])
        inner = list(combinations(range(1, fine.blocks - 1), 2))
        parts.extend(Part.through(fine, [u], barred=[v]) for u, v in inner[::2])
        parts.extend(Part.through(fine, pair) for pair in inner[1::2])
        return parts

    def check_histories(self, web, all_watched, seeds, most):
        for watched in all_watched:
            parts = self.some_parts(web, Recorder(web, watched=watched).cover.fine)
            for seed in seeds:
                for at, (recorder, model) in enumerate(histories.some_history(web, watched, seed, 14, most)):
                    self.check(recorder, model, [parts[(seed * 5 + at * 7 + more) % len(parts)] for more in (0, 11)])

    def test_double_diamond(self):
        self.check_histories(webs.double(), [(), (1, 2), (3,), (3, 4), (1, 2, 3, 4, 5)], range(6), 8)

    def test_full_web_of_five_blocks(self):
        self.check_histories(webs.full_web(5), [(), (2,), (3,), (3, 1), (1, 2, 3)], range(6), 5)

    def test_three_choices(self):
        self.check_histories(webs.chain(), [(), (3,), (6,), (6, 3)], range(6), 5)

    def test_blocks_on_no_run(self):
        self.check_histories(webs.web_with_dead_ends(), [(), (2,), (3, 4)], range(4), 4)

    def test_two_pieces_of_few_runs(self):
        """What is known by pieces is often more than what is known without them."""
        web, parts, unlike = webs.double(), [], 0
        parts = [Part.through(web, items) for items in [[1, 4], [1, 5], [(2, 3), 4]]]
        known = list(search.few_runs(web, 4))[7:]
        for at, first in enumerate(known[::3]):
            for place, second in enumerate(known[at % 4::4]):
                recorder, model = Recorder(web), histories.Model(web, ())
                for run, times in first:
                    recorder.enter(run, times=times)
                    model.pieces[0].append((run, times, False))
                recorder.cut()
                model.pieces.append([])
                for run, times in second[1:]:
                    recorder.enter(run, times=times)
                    model.pieces[1].append((run, times, False))
                if second and place % 3 == 0:
                    recorder.note(second[0][0])
                    model.pieces[1].append((second[0][0], 1, True))
                part = parts[(at + place) % 3]
                self.check(recorder, model, [part])
                unlike += recorder.known(part) != recorder.known_by_pieces(part)
        self.assertGreater(unlike, 50)

    def test_all_parts_of_one_history(self):
        web = webs.double()
        for watched in [(), (3,)]:
            recorder, model = Recorder(web, watched=watched), histories.Model(web, watched)
            deeds = [((0, 1, 3, 4, 6), 2, False), ((0, 2, 3, 5, 6), 1, True), None, ((0, 2, 3, 4, 6), 1, False),
                     ((0, 1, 3, 5, 6), 1, False), None, ((0, 1, 3, 4, 6), 1, True), ((0, 2, 3, 5, 6), 1, False)]
            for deed in deeds:
                if deed is None:
                    recorder.cut()
                    model.pieces.append([])
                else:
                    run, times, noted = deed
                    (recorder.note if noted else recorder.enter)(run, times=times)
                    model.pieces[-1].append(deed)
            fine = recorder.cover.fine
            parts = [Part(web, jumps) for jumps in webs.subsets(web.jumps)]
            parts.extend(Part(fine, jumps) for jumps in list(webs.subsets(fine.jumps))[::9])
            self.check(recorder, model, parts)


class EqualRoutinesTest(unittest.TestCase):
    """Watched blocks to which one jump leads are there once, so that the fine routine is equal to the base."""

    def test_a_part_is_one_of_both(self):
        web = webs.chain()
        for watched in [(1,), (1, 2, 7), (4, 5, 8)]:
            recorder, plain = Recorder(web, watched=watched), Recorder(Routine(10, web.jumps[::-1]))
            self.assertTrue(recorder.cover.fine == web)
            for at, run in enumerate(web.all_runs(), start=1):
                recorder.enter(run, times=at)
                plain.enter(run, times=at)
            for jumps in list(webs.subsets(web.jumps))[::61]:
                part = Part(recorder.cover.fine, jumps)
                self.assertEqual(recorder.known(part), plain.known(part))
                low, high = plain.known(part)
                self.assertEqual([recorder.example(part, number).kept(part) for number in (low, high)], [low, high])


if __name__ == "__main__":
    unittest.main()
