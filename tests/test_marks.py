"""Points 31, 32 and 36: pieces, marks, forks and sums of recorders."""

import unittest

from runledger.errors import NoMark, OtherRoutine, TooLarge
from runledger.ledgers import Ledger
from runledger.parts import Part
from runledger.recorder import Recorder
from runledger.routines import Routine
from tests import webs
from tests.recording import BY_ONE_AND_FOUR, FIFTEEN, FOURTEEN, TWENTYFIVE, TWENTYFOUR, recorded, state_of


class PiecesTest(unittest.TestCase):
    def test_pieces(self):
        recorder = recorded([3], [TWENTYFIVE])
        recorder.cut()
        recorder.note(FIFTEEN)
        pieces = recorder.pieces()
        self.assertEqual([type(piece) for piece in pieces], [tuple, tuple])
        for counts, ledger in pieces:
            self.assertTrue(counts.routine == recorder.cover.fine and ledger.routine == webs.double())
        self.assertEqual([counts.total for counts, _ in pieces], [10, 1])
        self.assertEqual([ledger.entries for _, ledger in pieces], [[(TWENTYFIVE, 3)], [(FIFTEEN, 1)]])
        self.assertTrue(pieces[0][0] + pieces[1][0] == recorder.fine_counts())
        self.assertTrue(pieces[0][1] + pieces[1][1] == recorder.noted())

    def test_cuts_at_the_begin_and_at_the_end_and_two_in_a_row(self):
        recorder = Recorder(webs.double())
        recorder.cut()
        recorder.enter(FOURTEEN)
        recorder.cut()
        recorder.cut()
        recorder.note(FIFTEEN, times=2)
        recorder.cut()
        self.assertEqual([counts.total for counts, _ in recorder.pieces()], [0, 1, 0, 2, 0])
        self.assertEqual([len(ledger) for _, ledger in recorder.pieces()], [0, 0, 0, 1, 0])
        part = Part.through(webs.double(), [1])
        self.assertEqual((recorder.known(part), recorder.known_by_pieces(part)), ((3, 3), (3, 3)))
        self.assertEqual([ledger.entries for ledger in recorder.example_by_pieces(part, 3)],
                         [[], [(FOURTEEN, 1)], [], [(FIFTEEN, 2)], []])

    def test_noted_runs_count_in_their_piece_alone(self):
        """By pieces more is known, as a noted run is known to be of its piece."""
        recorder = Recorder(webs.double())
        recorder.enter(FOURTEEN)
        recorder.enter(TWENTYFIVE)
        recorder.cut()
        recorder.note(FOURTEEN)
        recorder.enter(TWENTYFIVE)
        self.assertEqual(recorder.known(BY_ONE_AND_FOUR), (1, 2))
        self.assertEqual(recorder.known_by_pieces(BY_ONE_AND_FOUR), (1, 2))
        self.assertEqual([ledger.kept(BY_ONE_AND_FOUR) for ledger in recorder.example_by_pieces(BY_ONE_AND_FOUR, 1)],
                         [0, 1])


class MarksTest(unittest.TestCase):
    def test_numbers_of_marks(self):
        recorder = Recorder(webs.double())
        self.assertEqual([recorder.mark() for _ in range(20)], list(range(1, 21)))
        for _ in range(3):
            with self.assertRaises(TooLarge) as caught:
                recorder.mark()
            self.assertEqual(caught.exception.bound, 20)
        recorder.back_to(3)
        self.assertRaises(TooLarge, recorder.mark)
        self.assertRaises(TooLarge, recorder.fork().mark)
        self.assertEqual((recorder + recorder).mark(), 1)

    def test_back_to_earlier_and_again_to_later_marks(self):
        recorder = Recorder(webs.double(), watched=[3])
        states = []
        for at, run in enumerate([FOURTEEN, FIFTEEN, TWENTYFOUR, TWENTYFIVE]):
            (recorder.note if at in (1, 2) else recorder.enter)(run, times=at + 1)
            if at == 2:
                recorder.cut()
            states.append(state_of(recorder))
            self.assertEqual(recorder.mark(), at + 1)
        for number in [1, 4, 2, 2, 3, 1, 4]:
            recorder.back_to(number)
            self.assertEqual(state_of(recorder), states[number - 1])
            recorder.note(FOURTEEN, times=9)
            recorder.cut()
            recorder.enter(FIFTEEN)
        self.assertEqual(recorder.mark(), 5)

    def test_a_mark_of_nothing(self):
        recorder = Recorder(webs.double())
        recorder.mark()
        recorder.note(FOURTEEN)
        recorder.cut()
        recorder.back_to(1)
        self.assertEqual(state_of(recorder), [[], [], [], [([], [])]])

    def test_no_mark(self):
        recorder = recorded()
        recorder.mark()
        recorder.enter(FOURTEEN)
        before = state_of(recorder)
        values = [value for value in webs.odd_values() if not (type(value) is int and value == 1)]
        for value in [*values, 0, 2, -1, True, 10 ** 39, None, "1", (1,), [1]]:
            with self.subTest(value), self.assertRaises(NoMark) as caught:
                recorder.back_to(value)
            self.assertIs(caught.exception.number, value)
        self.assertRaises(NoMark, Recorder(webs.double()).back_to, 1)
        self.assertRaises(NoMark, (recorder + recorder).back_to, 1)
        self.assertEqual(state_of(recorder), before)


class ForksTest(unittest.TestCase):
    def test_forks_go_on_by_themselves(self):
        recorder = recorded([3], [TWENTYFIVE])
        recorder.mark()
        fork = recorder.fork()
        self.assertIsInstance(fork, Recorder)
        self.assertTrue(fork.routine == webs.double() and fork.cover == recorder.cover)
        before = state_of(recorder)
        self.assertEqual(state_of(fork), before)
        fork.note(FIFTEEN)
        fork.cut()
        fork.enter(TWENTYFOUR)
        self.assertEqual(fork.mark(), 2)
        self.assertEqual(state_of(recorder), before)
        self.assertRaises(NoMark, recorder.back_to, 2)
        later = state_of(fork)
        recorder.enter(FOURTEEN)
        recorder.cut()
        self.assertEqual([recorder.mark(), recorder.mark()], [2, 3])
        self.assertEqual(state_of(fork), later)
        self.assertRaises(NoMark, fork.back_to, 3)
        fork.back_to(1)
        self.assertEqual(state_of(fork), before)
        fork.back_to(2)
        self.assertEqual(state_of(fork), later)

    def test_fork_of_a_fork(self):
        recorder = recorded()
        fork = recorder.fork()
        other = fork.fork()
        other.enter(FOURTEEN)
        self.assertEqual([recorder.counts().total, fork.counts().total, other.counts().total], [10, 10, 11])


class AddingTest(unittest.TestCase):
    def test_pieces_of_the_first_and_then_of_the_second(self):
        one, other = recorded([3], [FOURTEEN]), Recorder(webs.double(), watched=(3, 3))
        other.enter(FIFTEEN)
        other.cut()
        other.note(FIFTEEN, times=4)
        one.mark()
        before = [state_of(one), state_of(other)]
        added = one + other
        self.assertIsInstance(added, Recorder)
        self.assertEqual(state_of(added)[3], before[0][3] + before[1][3])
        self.assertTrue(added.counts() == one.counts() + other.counts())
        self.assertTrue(added.noted() == one.noted() + other.noted())
        self.assertRaises(NoMark, added.back_to, 1)
        added.note(FIFTEEN)
        self.assertEqual(added.pieces()[-1][1].entries, [(FIFTEEN, 5)])
        self.assertEqual(added.pieces()[-1][0].total, 5)
        self.assertEqual([state_of(one), state_of(other)], before)

    def test_added_to_itself(self):
        recorder = recorded([3], [FOURTEEN])
        twice = recorder + recorder
        self.assertEqual(state_of(twice)[3], state_of(recorder)[3] * 2)
        self.assertTrue(twice.counts() == 2 * recorder.counts())
        twice.enter(FIFTEEN)
        self.assertEqual([counts.total for counts, _ in twice.pieces()], [10, 11])
        self.assertEqual(recorder.counts().total, 10)

    def test_other_routine_or_other_watched_blocks(self):
        recorder = recorded([3])
        others = [Recorder(webs.double()), Recorder(webs.double(), watched=[3, 4]), recorded([1]),
                  Recorder(Routine(7, [*webs.DOUBLE_JUMPS, (0, 6)]), watched=[3]), Recorder(webs.diamond())]
        for other in others:
            self.assertRaises(OtherRoutine, lambda: recorder + other)
            self.assertRaises(OtherRoutine, lambda: other + recorder)
        turned = Recorder(Routine(7, webs.DOUBLE_JUMPS[::-1]), watched=(3,))
        self.assertEqual((recorder + turned).counts().total, 10)

    def test_watched_blocks_count_even_if_the_covers_are_equal(self):
        """One jump leads to block 1: watched or not, it is there once."""
        one, other = Recorder(webs.double(), watched=[1]), Recorder(webs.double())
        self.assertTrue(one.cover == other.cover)
        self.assertRaises(OtherRoutine, lambda: one + other)

    def test_nothing_else_is_added(self):
        for value in [None, 1, "a", [], webs.double(), Ledger(webs.double(), [])]:
            self.assertRaises(TypeError, lambda: recorded() + value)


if __name__ == "__main__":
    unittest.main()
