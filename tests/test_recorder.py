"""Points 3, 31, 33, 36 and 37: what is recorded, and what is known, told by runledger/recorder.py."""

import unittest

from runledger.counts import Counts
from runledger.covers import Cover
from runledger.errors import BadNumber, NoMark, NoRun, NotInner, NotPossible, OtherRoutine, TooLarge
from runledger.ledgers import Ledger
from runledger.parts import Part
from runledger.programs import Program
from runledger.recorder import Recorder
from runledger.routines import Routine
from tests import coding, webs
from tests.recording import BY_ONE_AND_FOUR, FIFTEEN, FOURTEEN, TWENTYFIVE, TWENTYFOUR, recorded, state_of
from tests.test_programs import TWICE
from tests.webs import BIG


class MakingTest(unittest.TestCase):
    def test_nothing_recorded(self):
        for web in [webs.double(), webs.ladder(), *webs.bare_webs()]:
            recorder = Recorder(web)
            self.assertTrue(recorder.routine == web and recorder.cover == Cover.plain(web))
            self.assertEqual(state_of(recorder), [[], [], [], [([], [])]])
            self.assertEqual((recorder.known(Part(web, web.jumps)), recorder.known_by_pieces(Part(web, []))),
                             ((0, 0), (0, 0)))
            self.assertEqual(recorder.example(Part(web, web.jumps), 0).entries, [])
            self.assertEqual([ledger.entries for ledger in recorder.example_by_pieces(Part(web, []), 0)], [[]])
            self.assertRaises(NotPossible, recorder.example, Part(web, []), 1)

    def test_watched_blocks(self):
        for watched in [[3], (3,), [5, 3, 3], (1, 2, 3, 4, 5), []]:
            recorder = Recorder(webs.double(), watched=watched)
            self.assertIsInstance(recorder.cover, Cover)
            self.assertTrue(recorder.cover == Cover.watching(webs.double(), watched))

    def test_wrong_watched_blocks(self):
        for value in [*[value for value in webs.odd_values() if value not in [1, 2]], 0, 3, True, (1,)]:
            for watched in [[value], (1, value, "later")]:
                with self.subTest(value), self.assertRaises(NotInner) as caught:
                    Recorder(webs.diamond(), watched=watched)
                self.assertIs(caught.exception.block, value)

    def test_too_large(self):
        with self.assertRaises(TooLarge) as caught:
            Recorder(webs.ladder(), watched=[5])
        self.assertEqual(caught.exception.bound, 40)
        jumps = [*[(u, 10) for u in range(10)], *[(10, v) for v in range(11, 22)], (28, 29)]
        with self.assertRaises(TooLarge) as caught:
            Recorder(Routine(30, jumps), watched=(10,))
        self.assertEqual(caught.exception.bound, 120)

    def test_arguments_by_name(self):
        recorder = Recorder(routine=webs.double(), watched=[3])
        recorder.enter(run=FOURTEEN, times=2)
        recorder.note(run=TWENTYFIVE, times=1)
        self.assertEqual(recorder.record(program=Program(TWICE), inputs={}), [("b", 5), ("c", -5), ("d", 1), ("e", -4)])
        self.assertEqual((recorder.known(part=BY_ONE_AND_FOUR), recorder.known_by_pieces(part=BY_ONE_AND_FOUR)),
                         ((2, 2), (2, 2)))
        self.assertEqual(recorder.example(part=BY_ONE_AND_FOUR, number=2).kept(BY_ONE_AND_FOUR), 2)
        self.assertEqual(len(recorder.example_by_pieces(number=2, part=BY_ONE_AND_FOUR)), 1)
        recorder.mark()
        recorder.back_to(number=1)
        for call in [Recorder, recorder.enter, recorder.note]:
            self.assertRaises(TypeError, call, webs.double(), 2)


class EnteringTest(unittest.TestCase):
    def test_counts(self):
        for watched in [(), [3], [1, 3, 5]]:
            recorder = recorded(watched)
            ledger = Ledger(webs.double(), [(FOURTEEN, 6), (TWENTYFIVE, 3), (TWENTYFOUR, 1)])
            self.assertIsInstance(recorder.counts(), Counts)
            self.assertTrue(recorder.counts() == ledger.counts())
            self.assertTrue(recorder.fine_counts() == recorder.cover.lift_ledger(ledger).counts())
            self.assertEqual(recorder.noted().entries, [])

    def test_nothing_is_returned(self):
        recorder = Recorder(webs.double())
        self.assertEqual([recorder.enter(FOURTEEN), recorder.enter(FOURTEEN, times=3), recorder.note(FIFTEEN),
                          recorder.note(FIFTEEN, times=2), recorder.cut(), recorder.mark(), recorder.back_to(1)],
                         [None, None, None, None, None, 1, None])

    def test_noted_runs(self):
        recorder = recorded([3], [FOURTEEN, TWENTYFIVE])
        recorder.note(FOURTEEN)
        self.assertIsInstance(recorder.noted(), Ledger)
        self.assertTrue(recorder.noted().routine == webs.double())
        self.assertEqual(recorder.noted().entries, [(FOURTEEN, 7), (TWENTYFIVE, 3)])
        self.assertEqual(recorder.counts().total, 11)

    def test_noted_and_entered_at_once(self):
        recorder = Recorder(webs.double())
        recorder.enter(FOURTEEN, times=2)
        recorder.note(FOURTEEN, times=3)
        recorder.enter(FOURTEEN)
        recorder.enter(TWENTYFIVE, times=4)
        self.assertEqual(state_of(recorder)[2:], [[(FOURTEEN, 3)], [(recorder.counts().pairs, [(FOURTEEN, 3)])]])
        self.assertEqual(recorder.counts().pairs, [((0, 1), 6), ((0, 2), 4), ((1, 3), 6), ((2, 3), 4), ((3, 4), 6),
                                                   ((3, 5), 4), ((4, 6), 6), ((5, 6), 4)])
        self.assertEqual(recorder.known(BY_ONE_AND_FOUR), (3, 6))

    def test_no_run(self):
        recorder = Recorder(webs.diamond(), watched=[1])
        for value in [*webs.odd_values(), (0, 3), (0, 1, 2, 3), [0, 1, 3], 0]:
            for call in [recorder.enter, recorder.note]:
                for times in [1, 0, "x"]:
                    with self.subTest(value), self.assertRaises(NoRun) as caught:
                        call(value, times=times)
                    self.assertIs(caught.exception.run, value)
        self.assertEqual(state_of(recorder), state_of(Recorder(webs.diamond(), watched=[1])))

    def test_fine_runs_are_no_runs(self):
        recorder = Recorder(webs.double(), watched=[3])
        self.assertRaises(NoRun, recorder.enter, recorder.cover.lift(FOURTEEN))
        self.assertRaises(NoRun, recorder.note, recorder.cover.lift(TWENTYFIVE))

    def test_bad_number(self):
        recorder = Recorder(webs.diamond())
        values = [value for value in webs.odd_values() if not (type(value) is int and 1 <= value <= BIG)]
        for value in [*values, 0, -1, BIG + 1, True, None, "1", (1,), [1]]:
            for call in [recorder.enter, recorder.note]:
                with self.subTest(value):
                    self.assertRaises(BadNumber, call, (0, 1, 3), times=value)
        self.assertEqual(state_of(recorder), state_of(Recorder(webs.diamond())))

    def test_times_of_10_to_the_30_and_sums_beyond(self):
        recorder = Recorder(webs.double(), watched=[3])
        for _ in range(12):
            recorder.enter(FOURTEEN, times=BIG)
            recorder.note(TWENTYFIVE, times=BIG)
        self.assertEqual(recorder.counts().total, 24 * BIG)
        self.assertEqual(recorder.fine_counts()[(3, 5)], 12 * BIG)
        self.assertEqual(recorder.noted().entries, [(TWENTYFIVE, 12 * BIG)])
        self.assertEqual(recorder.known(BY_ONE_AND_FOUR), (12 * BIG, 12 * BIG))
        self.assertEqual(recorder.example(BY_ONE_AND_FOUR, 12 * BIG).entries,
                         [(FOURTEEN, 12 * BIG), (TWENTYFIVE, 12 * BIG)])


class RecordTest(unittest.TestCase):
    def test_programs(self):
        for seed in range(20):
            code = coding.some_program(seed, 7)
            program = Program(code)
            for watched in [(), [3], [1, 2, 3, 4, 5]]:
                recorder, other = Recorder(program.routine, watched=watched), Recorder(program.routine, watched=watched)
                for at in range(5):
                    run, values = coding.slow_execute(code, coding.some_inputs(at))
                    self.assertEqual(recorder.record(program, coding.some_inputs(at)), values)
                    other.enter(run)
                    self.assertEqual(state_of(recorder), state_of(other))
                self.assertEqual(recorder.noted().entries, [])

    def test_other_routine(self):
        recorder = Recorder(webs.diamond())
        self.assertRaises(OtherRoutine, recorder.record, Program(TWICE), {})
        self.assertRaises(OtherRoutine, Recorder(Routine(7, webs.DOUBLE_JUMPS[1:])).record, Program(TWICE), {})
        watching = Recorder(webs.double(), watched=[3])
        self.assertRaises(OtherRoutine, watching.record, Program(TWICE).covered(watching.cover), {})
        self.assertEqual(state_of(recorder), state_of(Recorder(webs.diamond())))
        self.assertEqual(Recorder(Routine(7, webs.DOUBLE_JUMPS[::-1])).record(Program(TWICE), {"b": -9})[0], ("b", -4))


class WrongArgumentsTest(unittest.TestCase):
    def test_other_routine_comes_first(self):
        recorder = recorded([3])
        parts = [Part(webs.diamond(), []), Part(Routine(7, webs.DOUBLE_JUMPS[1:]), []),
                 Part(Routine(8, recorder.cover.fine.jumps[1:]), [])]
        for part in parts:
            self.assertRaises(OtherRoutine, recorder.known, part)
            self.assertRaises(OtherRoutine, recorder.known_by_pieces, part)
            for number in [0, -1, 99]:
                self.assertRaises(OtherRoutine, recorder.example, part, number)
                self.assertRaises(OtherRoutine, recorder.example_by_pieces, part, number)
        self.assertRaises(OtherRoutine, recorded().known, Part(recorder.cover.fine, []))

    def test_not_possible(self):
        recorder = recorded()
        recorder.cut()
        recorder.note(FOURTEEN, times=2)
        for number in [-1, 4, 9, 10 ** 39, -10 ** 39]:
            with self.assertRaises(NotPossible) as caught:
                recorder.example(BY_ONE_AND_FOUR, number)
            self.assertEqual((caught.exception.least, caught.exception.greatest), (5, 8))
            with self.assertRaises(NotPossible) as caught:
                recorder.example_by_pieces(BY_ONE_AND_FOUR, number)
            self.assertEqual((caught.exception.least, caught.exception.greatest), (5, 8))

    def test_not_possible_by_pieces(self):
        recorder = Recorder(webs.double())
        recorder.enter(FOURTEEN, times=3)
        recorder.enter(FIFTEEN, times=3)
        recorder.cut()
        recorder.enter(TWENTYFOUR, times=4)
        for number, raised in [(2, True), (4, False), (6, False), (7, True)]:
            with self.assertRaises(NotPossible) as caught:
                recorder.example_by_pieces(BY_ONE_AND_FOUR, number)
            self.assertEqual((caught.exception.least, caught.exception.greatest), (3, 3))
            if raised:
                with self.assertRaises(NotPossible) as caught:
                    recorder.example(BY_ONE_AND_FOUR, number)
                self.assertEqual((caught.exception.least, caught.exception.greatest), (3, 6))
            else:
                self.assertEqual(recorder.example(BY_ONE_AND_FOUR, number).kept(BY_ONE_AND_FOUR), number)

    def test_errors_change_nothing(self):
        recorder = recorded([3], [FOURTEEN])
        recorder.mark()
        before = state_of(recorder)
        self.assertRaises(NoRun, recorder.enter, (0, 6))
        self.assertRaises(NoRun, recorder.note, (0, 6))
        self.assertRaises(BadNumber, recorder.enter, FOURTEEN, times=0)
        self.assertRaises(BadNumber, recorder.note, FOURTEEN, times=BIG + 1)
        self.assertRaises(OtherRoutine, recorder.record, Program([((), ("go", 1)), ((), ("stop",))]), {})
        self.assertRaises(NotPossible, recorder.example, BY_ONE_AND_FOUR, 99)
        self.assertRaises(NotPossible, recorder.example_by_pieces, BY_ONE_AND_FOUR, 99)
        self.assertRaises(NoMark, recorder.back_to, 2)
        self.assertRaises(OtherRoutine, lambda: recorder + Recorder(webs.diamond()))
        self.assertEqual(state_of(recorder), before)


class CopiesTest(unittest.TestCase):
    def test_handed_in_lists_changed_later(self):
        watched = [3]
        recorder = Recorder(webs.double(), watched=watched)
        watched.append(4)
        self.assertTrue(recorder.cover == Cover.watching(webs.double(), [3]))
        self.assertEqual((recorder + Recorder(webs.double(), watched=[3])).counts().total, 0)

    def test_told_lists_changed_later(self):
        recorder = recorded([3], [FOURTEEN])
        before = state_of(recorder)
        recorder.pieces().clear()
        recorder.pieces().append("x")
        recorder.counts().pairs.clear()
        recorder.fine_counts().pairs.clear()
        recorder.noted().entries.clear()
        recorder.example(BY_ONE_AND_FOUR, 6).entries.clear()
        recorder.example_by_pieces(BY_ONE_AND_FOUR, 6).clear()
        recorder.pieces()[0][1].entries.clear()
        self.assertEqual(state_of(recorder), before)
        self.assertIsNot(recorder.pieces(), recorder.pieces())

    def test_what_was_told_stays_as_it_was(self):
        recorder = recorded([3], [FOURTEEN])
        told = [recorder.counts(), recorder.fine_counts(), recorder.noted(), *recorder.pieces()[0],
                recorder.example(BY_ONE_AND_FOUR, 6), *recorder.example_by_pieces(BY_ONE_AND_FOUR, 6)]
        pieces = recorder.pieces()
        before = [thing.entries if isinstance(thing, Ledger) else thing.pairs for thing in told]
        recorder.mark()
        recorder.note(FOURTEEN, times=5)
        recorder.cut()
        recorder.enter(FIFTEEN)
        recorder.back_to(1)
        recorder.note(TWENTYFIVE)
        self.assertEqual([thing.entries if isinstance(thing, Ledger) else thing.pairs for thing in told], before)
        self.assertEqual(len(pieces), 1)

    def test_equal_things_made_otherwise(self):
        """The same runs, recorded in another order and in other lots."""
        one, other = Recorder(webs.double(), watched=[1, 3]), Recorder(Routine(7, webs.DOUBLE_JUMPS[::-1]),
                                                                       watched=(3, 1))
        for run, times in [(FOURTEEN, 2), (TWENTYFIVE, 3), (FIFTEEN, 1)]:
            one.enter(run, times=times)
        one.note(TWENTYFOUR, times=2)
        other.note(TWENTYFOUR)
        for run in [TWENTYFIVE, FIFTEEN, FOURTEEN, TWENTYFIVE, FOURTEEN, TWENTYFIVE]:
            other.enter(run)
        other.mark()
        other.note(TWENTYFOUR)
        other.mark()
        other.back_to(1)
        other.back_to(2)
        self.assertEqual(state_of(one), state_of(other))
        for jumps in list(webs.subsets(webs.DOUBLE_JUMPS))[::5]:
            part = Part(webs.double(), jumps)
            self.assertEqual(one.known(part), other.known(part))
            for number in range(one.known(part)[0], one.known(part)[1] + 1):
                self.assertEqual(one.example(part, number).entries, other.example(part, number).entries)
                self.assertEqual(one.example(part, number).entries, one.example(part, number).entries)
                self.assertEqual([ledger.entries for ledger in one.example_by_pieces(part, number)],
                                 [ledger.entries for ledger in other.example_by_pieces(part, number)])


class LargeTest(unittest.TestCase):
    def test_billions_of_runs(self):
        with webs.within(40):
            self.check_large(webs.ladder(), ())
            self.check_large(webs.wide_ladder(), ())
            self.check_large(Routine(30, [(u, v) for u in range(30) for v in (u + 1, u + 2) if v < 30]),
                             [4, 8, 12, 16, 20, 24, 27])

    def some_runs(self, web):
        """Runs that turn off at unlike blocks."""
        for at in range(30):
            run = [0]
            while run[-1] != web.blocks - 1:
                outs = web.outs(run[-1])
                run.append(outs[(at * len(run) + at // 7) % len(outs)][1])
            yield tuple(run), BIG - at ** 5

    def check_large(self, web, watched):
        recorder = Recorder(web, watched=watched)
        for at, (run, times) in enumerate(self.some_runs(web)):
            (recorder.note if at % 5 == 1 else recorder.enter)(run, times=times)
            if at % 11 == 3:
                recorder.cut()
        parts = [Part.through(web, [7, 20]), Part.through(web, [5], barred=[12]), Part(web, web.jumps[::2])]
        parts.append(Part(recorder.cover.fine, recorder.cover.fine.jumps[1:]))
        for part in parts:
            self.check_part(recorder, part)

    def check_part(self, recorder, part):
        low, high = recorder.known(part)
        less, more = recorder.known_by_pieces(part)
        self.assertTrue(0 <= low <= less <= more <= high)
        kept = recorder.cover.lift_part(part) if part.routine == recorder.routine else part
        for number in {low, (low + high) // 2, high}:
            ledger = recorder.example(part, number)
            self.assertTrue(recorder.cover.lift_ledger(ledger).counts() == recorder.fine_counts())
            self.assertTrue(all(ledger[run] >= times for run, times in recorder.noted().entries))
            self.assertEqual(recorder.cover.lift_ledger(ledger).kept(kept), number)
        for number in {less, (less + more) // 2, more}:
            ledgers = recorder.example_by_pieces(part, number)
            lifted = [recorder.cover.lift_ledger(ledger) for ledger in ledgers]
            self.assertEqual(sum(ledger.kept(kept) for ledger in lifted), number)
            self.assertEqual(len(ledgers), len(recorder.pieces()))
            for ledger, (counts, noted) in zip(lifted, recorder.pieces()):
                self.assertTrue(ledger.counts() == counts)
                named = recorder.cover.name_ledger(ledger)
                self.assertTrue(all(named[run] >= times for run, times in noted.entries))


if __name__ == "__main__":
    unittest.main()
