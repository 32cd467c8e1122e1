"""Recorders of the double diamond to test with."""

from runledger.parts import Part
from runledger.recorder import Recorder
from tests import webs

# The four runs of the double diamond, by the blocks that they choose.
FOURTEEN, FIFTEEN, TWENTYFOUR, TWENTYFIVE = (0, 1, 3, 4, 6), (0, 1, 3, 5, 6), (0, 2, 3, 4, 6), (0, 2, 3, 5, 6)
BY_ONE_AND_FOUR = Part.through(webs.double(), [1, 4])


def recorded(watched=(), notes=()):
    """A recorder of the double diamond in which ten runs were entered or noted."""
    recorder = Recorder(webs.double(), watched=watched)
    for run, times in [(FOURTEEN, 6), (TWENTYFIVE, 3), (TWENTYFOUR, 1)]:
        (recorder.note if run in notes else recorder.enter)(run, times=times)
    return recorder


def state_of(recorder):
    """All that a recorder tells of what it holds."""
    pieces = [(counts.pairs, ledger.entries) for counts, ledger in recorder.pieces()]
    return [recorder.counts().pairs, recorder.fine_counts().pairs, recorder.noted().entries, pieces]
