"""The examples of the interface: runledger/routines.py and runledger/parts.py (errors.py has none)."""

import unittest

from tests.examples import check_example

ROUTINE = """
>>> from runledger.routines import Routine
>>> web = Routine(4, [(1, 3), (0, 1), (0, 2), (2, 3)])
>>> [web.jumps, list(web.all_runs()), web.ins(3), web.is_run((0, 3)), (1, 2) in web]
[[(0, 1), (0, 2), (1, 3), (2, 3)], [(0, 1, 3), (0, 2, 3)], [(1, 3), (2, 3)], False, False]
"""

ROUTINE_TEXT = r"""
>>> from runledger.routines import Routine
>>> Routine.parse('blocks 3\n0 1\n0 1')
raises BadText(line=3)
"""

THROUGH = """
>>> from runledger.parts import closed, Part
>>> from runledger.routines import Routine
>>> web = Routine(7, [(0, 1), (0, 2), (1, 3), (2, 3), (3, 4), (3, 5), (4, 6), (5, 6)])
>>> part = Part.through(web, [1, 4])
>>> [part.jumps, part((0, 1, 3, 4, 6)), part.how_many(), part <= Part.through(web, [4])]
[[(0, 1), (1, 3), (3, 4), (4, 6)], True, 1, True]
"""

CLOSED = """
>>> from runledger.parts import closed
>>> from runledger.routines import Routine
>>> web = Routine(7, [(0, 1), (0, 2), (1, 3), (2, 3), (3, 4), (3, 5), (4, 6), (5, 6)])
>>> closed(web, [(0, 1, 3, 4, 6), (0, 2, 3, 5, 6)])
('open', (0, 1, 3, 4, 6), (0, 2, 3, 5, 6), 3)
"""

NOT_IN = """
>>> from runledger.parts import Part
>>> from runledger.routines import Routine
>>> web = Routine(7, [(0, 1), (0, 2), (1, 3), (2, 3), (3, 4), (3, 5), (4, 6), (5, 6)])
>>> part, other = Part.through(web, [4]), Part.through(web, [1])
>>> [part.not_in(other), other.kept_run_by((4, 6)), part.kept_run_by((3, 5))]
[(0, 2, 3, 4, 6), (0, 1, 3, 4, 6), None]
"""


class ExamplesTest(unittest.TestCase):
    def test_routine(self):
        check_example(self, ROUTINE)

    def test_text_of_a_routine(self):
        check_example(self, ROUTINE_TEXT)

    def test_part_through(self):
        check_example(self, THROUGH)

    def test_closed(self):
        check_example(self, CLOSED)

    def test_not_in(self):
        check_example(self, NOT_IN)

    def test_the_check_itself_fails_on_another_outcome(self):
        for text in [ROUTINE.replace("False, False]", "False, True]"), ROUTINE_TEXT.replace("line=3", "line=2")]:
            with self.assertRaises(AssertionError):
                check_example(self, text)


if __name__ == "__main__":
    unittest.main()
