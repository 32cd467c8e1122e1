"""The examples of the interface, of all files (errors.py has none)."""

import unittest

from tests.examples import check_example

ROUTINE = """
>>> from runledger.routines import Routine
>>> web = Routine(4, [(1, 3), (0, 1), (0, 2), (2, 3)])
>>> [web.jumps, list(web.all_runs()), web.ins(3), web.is_run((0, 3)), (1, 2) in web]
[[(0, 1), (0, 2), (1, 3), (2, 3)], [(0, 1, 3), (0, 2, 3)], [(1, 3), (2, 3)], False, False]
"""

ROUTINE_TEXT = r"""
>>> from runledger.routines import Routine
>>> Routine.parse('blocks 3\n0 1\n0 1')
raises BadText(line=3)
"""

THROUGH = """
>>> from runledger.parts import closed, Part
>>> from runledger.routines import Routine
>>> web = Routine(7, [(0, 1), (0, 2), (1, 3), (2, 3), (3, 4), (3, 5), (4, 6), (5, 6)])
>>> part = Part.through(web, [1, 4])
>>> [part.jumps, part((0, 1, 3, 4, 6)), part.how_many(), part <= Part.through(web, [4])]
[[(0, 1), (1, 3), (3, 4), (4, 6)], True, 1, True]
"""

CLOSED = """
>>> from runledger.parts import closed
>>> from runledger.routines import Routine
>>> web = Routine(7, [(0, 1), (0, 2), (1, 3), (2, 3), (3, 4), (3, 5), (4, 6), (5, 6)])
>>> closed(web, [(0, 1, 3, 4, 6), (0, 2, 3, 5, 6)])
('open', (0, 1, 3, 4, 6), (0, 2, 3, 5, 6), 3)
"""

NOT_IN = """
>>> from runledger.parts import Part
>>> from runledger.routines import Routine
>>> web = Routine(7, [(0, 1), (0, 2), (1, 3), (2, 3), (3, 4), (3, 5), (4, 6), (5, 6)])
>>> part, other = Part.through(web, [4]), Part.through(web, [1])
>>> [part.not_in(other), other.kept_run_by((4, 6)), part.kept_run_by((3, 5))]
[(0, 2, 3, 4, 6), (0, 1, 3, 4, 6), None]
"""

COUNTS = """
>>> from runledger.counts import Counts
>>> from runledger.routines import Routine
>>> web = Routine(4, [(0, 1), (0, 2), (1, 3), (2, 3)])
>>> counts = Counts(web, [((0, 1), 2), ((1, 3), 2), ((0, 2), 1), ((2, 3), 1)])
>>> [counts.total, counts.load(1), counts[(0, 2)], (2 * counts).total, counts.pairs]
[3, 2, 1, 6, [((0, 1), 2), ((0, 2), 1), ((1, 3), 2), ((2, 3), 1)]]
"""

TALLY = """
>>> from runledger.counts import Tally
>>> from runledger.routines import Routine
>>> tally = Tally(Routine(4, [(0, 1), (0, 2), (1, 3), (2, 3)]))
>>> [tally.uneven(), tally[(0, 1)], tally.counts().total]
[[], 0, 0]
"""

UNEVEN = """
>>> from runledger.counts import Counts
>>> from runledger.routines import Routine
>>> Counts(Routine(4, [(0, 1), (0, 2), (1, 3), (2, 3)]), [((0, 1), 2), ((1, 3), 1)])
raises Uneven(block=1)
"""

LEDGER = """
>>> from runledger.ledgers import Ledger
>>> from runledger.routines import Routine
>>> web = Routine(7, [(0, 1), (0, 2), (1, 3), (2, 3), (3, 4), (3, 5), (4, 6), (5, 6)])
>>> ledger = Ledger(web, [((0, 2, 3, 5, 6), 2), ((0, 1, 3, 4, 6), 3)])
>>> after = ledger.exchanged((0, 1, 3, 4, 6), (0, 2, 3, 5, 6), 3, times=2)
>>> [after.entries, after.counts() == ledger.counts()]
[[((0, 1, 3, 4, 6), 1), ((0, 1, 3, 5, 6), 2), ((0, 2, 3, 4, 6), 2)], True]
"""

BOUNDS = """
>>> from runledger.bounds import ceiling_weight, floor_weight, greatest, least
>>> from runledger.counts import Counts
>>> from runledger.routines import Routine
>>> from runledger.parts import Part
>>> jumps = [(0, 1), (0, 2), (1, 3), (2, 3), (3, 4), (3, 5), (4, 6), (5, 6)]
>>> routine = Routine(7, jumps)
>>> counts = Counts(routine, list(zip(jumps, [6, 4, 6, 4, 7, 3, 7, 3])))
>>> part = Part.through(routine, [1, 4])
>>> two = [ceiling_weight(counts, part, [0]), floor_weight(counts, part, [0, 1, 3, 4, 6])]
>>> [greatest(counts, part)[0], least(counts, part)[0]] + two
[6, 3, 6, 7]
"""

KNOWN_NUMBERS = """
>>> from runledger.between import known_numbers
>>> from runledger.counts import Counts
>>> from runledger.routines import Routine
>>> from runledger.ledgers import Ledger
>>> from runledger.parts import Part
>>> jumps = [(0, 1), (0, 2), (1, 3), (2, 3), (3, 4), (3, 5), (4, 6), (5, 6)]
>>> routine = Routine(7, jumps)
>>> counts = Counts(routine, list(zip(jumps, [6, 4, 6, 4, 7, 3, 7, 3])))
>>> part = Part.through(routine, [1, 4])
>>> known_numbers(counts, Ledger(routine, [((0, 2, 3, 5, 6), 1)]), part)
(4, 6)
"""

LEDGER_WITH = """
>>> from runledger.between import ledger_with
>>> from runledger.counts import Counts
>>> from runledger.routines import Routine
>>> from runledger.parts import Part
>>> jumps = [(0, 1), (0, 2), (1, 3), (2, 3), (3, 4), (3, 5), (4, 6), (5, 6)]
>>> routine = Routine(7, jumps)
>>> counts = Counts(routine, list(zip(jumps, [6, 4, 6, 4, 7, 3, 7, 3])))
>>> part = Part.through(routine, [1, 4])
>>> ledger_with(counts, part, 2)
raises NotPossible(least=3, greatest=6)
"""

RUN_TIMES = """
>>> from runledger.sure import run_times, sure_runs
>>> from runledger.counts import Counts
>>> from runledger.routines import Routine
>>> jumps = [(0, 1), (0, 2), (1, 3), (2, 3), (3, 4), (3, 5), (4, 6), (5, 6)]
>>> routine = Routine(7, jumps)
>>> counts = Counts(routine, list(zip(jumps, [6, 4, 6, 4, 7, 3, 7, 3])))
>>> [run_times(counts, (0, 1, 3, 5, 6)), sure_runs(counts)]
[(0, 3), [((0, 1, 3, 4, 6), 3), ((0, 2, 3, 4, 6), 1)]]
"""

ONLY_LEDGER = """
>>> from runledger.sure import only_ledger, whoever
>>> from runledger.counts import Counts
>>> from runledger.routines import Routine
>>> jumps = [(0, 1), (0, 2), (1, 3), (2, 3), (3, 4), (3, 5), (4, 6), (5, 6)]
>>> routine = Routine(7, jumps)
>>> counts = Counts(routine, list(zip(jumps, [6, 4, 6, 4, 7, 3, 7, 3])))
>>> [whoever(counts, 1, 4)[0], whoever(counts, 4, 3)[0], whoever(counts, 1, 2)[0], only_ledger(counts)[0]]
['open', 'all', 'none', 'more']
"""

WAY = """
>>> from runledger.ledgers import Ledger
>>> from runledger.routines import Routine
>>> from runledger.ways import is_recoupled, way
>>> jumps = [(0, 1), (0, 2), (1, 3), (2, 3), (3, 4), (3, 5), (4, 6), (5, 6)]
>>> routine = Routine(7, jumps)
>>> first = Ledger(routine, [((0, 1, 3, 4, 6), 6), ((0, 2, 3, 4, 6), 1), ((0, 2, 3, 5, 6), 3)])
>>> second = Ledger(routine, [((0, 1, 3, 4, 6), 3), ((0, 1, 3, 5, 6), 3), ((0, 2, 3, 4, 6), 4)])
>>> [is_recoupled(first, second, 3), is_recoupled(first, second, 1), len(way(first, second))]
[True, False, 6]
"""

SHARE = """
>>> from runledger.shares import share
>>> from runledger.counts import Counts
>>> from runledger.routines import Routine
>>> from runledger.parts import Part
>>> jumps = [(0, 1), (0, 2), (1, 3), (2, 3), (3, 4), (3, 5), (4, 6), (5, 6)]
>>> routine = Routine(7, jumps)
>>> counts = Counts(routine, list(zip(jumps, [6, 4, 6, 4, 7, 3, 7, 3])))
>>> share(counts, Part.through(routine, [1, 4]))
(21, 5)
"""

COVER = """
>>> from runledger.covers import Cover
>>> from runledger.routines import Routine
>>> web = Routine(7, [(0, 1), (0, 2), (1, 3), (2, 3), (3, 4), (3, 5), (4, 6), (5, 6)])
>>> cover = Cover.plain(web).copied(3, [(1, 3)])
>>> [cover.names, cover.lift((0, 1, 3, 4, 6)), cover.name((0, 2, 3, 6, 7)), Cover.watching(web, [3]).names]
[[0, 1, 2, 3, 3, 4, 5, 6], (0, 1, 4, 5, 7), (0, 2, 3, 5, 6), [0, 1, 2, 3, 3, 4, 5, 6]]
"""

NEW_NUMBERS = """
>>> from runledger.counts import Counts
>>> from runledger.covers import new_numbers
>>> from runledger.routines import Routine
>>> web = Routine(7, [(0, 1), (0, 2), (1, 3), (2, 3), (3, 4), (3, 5), (4, 6), (5, 6)])
>>> counts = Counts(web, list(zip(web.jumps, [6, 4, 6, 4, 7, 3, 7, 3])))
>>> new_numbers(counts, 3, [(1, 3)])[4:8]
[((3, 5), 1, 4), ((3, 6), 0, 3), ((4, 5), 3, 6), ((4, 6), 0, 3)]
"""

PROGRAM = """
>>> from runledger.programs import Program
>>> code = [((('c', 'a', '-', 'b'),), ('if', 'c', '<', 0, 1, 2)), ((('c', 0, '-', 'c'),), ('go', 2)), ((), ('stop',))]
>>> program = Program(code)
>>> [program.routine.jumps, program.execute({'a': 3, 'b': 8}), program.execute({'a': 8, 'b': 3})]
[[(0, 1), (0, 2), (1, 2)], ((0, 1, 2), [('a', 3), ('b', 8), ('c', 5)]), ((0, 2), [('a', 8), ('b', 3), ('c', 5)])]
"""

BAD_PROGRAM = """
>>> from runledger.programs import Program
>>> Program([((), ('go', 1)), ((), ('go', 2))])
raises BadProgram(at=1)
"""

RECORDER = """
>>> from runledger.parts import Part
>>> from runledger.recorder import Recorder
>>> from runledger.routines import Routine
>>> web = Routine(7, [(0, 1), (0, 2), (1, 3), (2, 3), (3, 4), (3, 5), (4, 6), (5, 6)])
>>> plain, keen, part = Recorder(web), Recorder(web, watched=[3]), Part.through(web, [1, 4])
>>> one = [plain.enter((0, 1, 3, 4, 6), times=6), plain.enter((0, 2, 3, 5, 6), times=3), plain.enter((0, 2, 3, 4, 6))]
>>> two = [keen.enter((0, 1, 3, 4, 6), times=6), keen.enter((0, 2, 3, 5, 6), times=3), keen.enter((0, 2, 3, 4, 6))]
>>> [plain.known(part), keen.known(part), keen.fine_counts()[(4, 5)], plain.example(part, 4).kept(part)]
[(3, 6), (6, 6), 1, 4]
"""

RECORDER_PIECES = """
>>> from runledger.parts import Part
>>> from runledger.recorder import Recorder
>>> from runledger.routines import Routine
>>> web = Routine(7, [(0, 1), (0, 2), (1, 3), (2, 3), (3, 4), (3, 5), (4, 6), (5, 6)])
>>> recorder, part = Recorder(web), Part.through(web, [1, 4])
>>> one = [recorder.enter((0, 1, 3, 4, 6), times=3), recorder.enter((0, 1, 3, 5, 6), times=3), recorder.cut()]
>>> two = [recorder.enter((0, 2, 3, 4, 6), times=4)]
>>> [recorder.known(part), recorder.known_by_pieces(part), len(recorder.pieces())]
[(3, 6), (3, 3), 2]
"""

TEXTS = r"""
>>> from runledger.ledgers import Ledger
>>> from runledger.routines import Routine
>>> from runledger.texts import read_ledger, show, show_ledger
>>> web = Routine(4, [(0, 1), (0, 2), (1, 3), (2, 3)])
>>> ledger = Ledger(web, [((0, 1, 3), 2), ((0, 2, 3), 1)])
>>> [show(ledger.counts()), show_ledger(ledger), read_ledger(web, '2 0 1 3\n1 0 2 3') == ledger]
['blocks 4\n0 1 2\n0 2 1\n1 3 2\n2 3 1', '2 0 1 3\n1 0 2 3', True]
"""


class ExamplesTest(unittest.TestCase):
    def test_routine(self):
        check_example(self, ROUTINE)

    def test_text_of_a_routine(self):
        check_example(self, ROUTINE_TEXT)

    def test_part_through(self):
        check_example(self, THROUGH)

    def test_closed(self):
        check_example(self, CLOSED)

    def test_not_in(self):
        check_example(self, NOT_IN)

    def test_counts(self):
        check_example(self, COUNTS)

    def test_tally(self):
        check_example(self, TALLY)

    def test_uneven_counts(self):
        check_example(self, UNEVEN)

    def test_ledger(self):
        check_example(self, LEDGER)

    def test_bounds(self):
        check_example(self, BOUNDS)

    def test_known_numbers(self):
        check_example(self, KNOWN_NUMBERS)

    def test_ledger_with(self):
        check_example(self, LEDGER_WITH)

    def test_run_times(self):
        check_example(self, RUN_TIMES)

    def test_only_ledger(self):
        check_example(self, ONLY_LEDGER)

    def test_way(self):
        check_example(self, WAY)

    def test_share(self):
        check_example(self, SHARE)

    def test_cover(self):
        check_example(self, COVER)

    def test_new_numbers(self):
        check_example(self, NEW_NUMBERS)

    def test_program(self):
        check_example(self, PROGRAM)

    def test_bad_program(self):
        check_example(self, BAD_PROGRAM)

    def test_recorder(self):
        check_example(self, RECORDER)

    def test_recorder_pieces(self):
        check_example(self, RECORDER_PIECES)

    def test_texts(self):
        check_example(self, TEXTS)

    def test_the_check_itself_fails_on_another_outcome(self):
        for text in [ROUTINE.replace("False, False]", "False, True]"), ROUTINE_TEXT.replace("line=3", "line=2")]:
            with self.assertRaises(AssertionError):
                check_example(self, text)


if __name__ == "__main__":
    unittest.main()
