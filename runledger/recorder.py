"""Recorders: what is known of runs of which only counts, and those that were noted, are told."""

from runledger.between import known_numbers, ledger_with_seen
from runledger.checks import is_integer, is_times
from runledger.counts import Counts
from runledger.covers import Cover
from runledger.errors import BadNumber, NoMark, NoRun, NotPossible, OtherRoutine, TooLarge
from runledger.flows import least_of
from runledger.ledgers import Ledger

MOST_MARKS = 20


class Recorder:
    """A recorder of a routine. It holds pieces, of which the last one is the present one.

    A piece is a tuple of fine Counts and the Ledger of its noted runs. What is recorded makes a new piece
    in place of the old one, so that marks, forks and sums can hold the same pieces.
    """

    def __init__(self, routine, *, watched=()):
        self.cover = Cover.watching(routine, watched)
        self.routine = routine
        self._watched = sorted(set(watched))
        self._pieces = [(Counts(self.cover.fine, []), Ledger(routine, []))]
        self._marks = []

    def enter(self, run, *, times=1):
        """Record in secret that the run was made so often."""
        self._take_in(run, times, False)

    def note(self, run, *, times=1):
        """Record that the run was made so often, so that everybody knows it."""
        self._take_in(run, times, True)

    def _take_in(self, run, times, known):
        """Add the run to the present piece."""
        if not self.routine.is_run(run):
            raise NoRun(run)
        if not is_times(times):
            raise BadNumber()
        made = Ledger(self.routine, [(run, times)])
        counts, noted = self._pieces[-1]
        counts = counts + self.cover.lift_ledger(made).counts()
        self._pieces[-1] = (counts, noted + made if known else noted)

    def record(self, program, inputs):
        """Execute the program with the inputs, record its run in secret, and return the values."""
        if program.routine != self.routine:
            raise OtherRoutine()
        run, values = program.execute(inputs)
        self.enter(run)
        return values

    def counts(self):
        """Return the Counts of all runs that were recorded."""
        return self.cover.sums(self.fine_counts())

    def fine_counts(self):
        """Return the Counts of the lifts of all runs that were recorded."""
        added = Counts(self.cover.fine, [])
        for counts, _ in self._pieces:
            added = added + counts
        return added

    def noted(self):
        """Return the Ledger of the noted runs."""
        added = Ledger(self.routine, [])
        for _, noted in self._pieces:
            added = added + noted
        return added

    def cut(self):
        """End the present piece and begin the next one."""
        self._pieces.append((Counts(self.cover.fine, []), Ledger(self.routine, [])))

    def pieces(self):
        """Return the list of the pieces, each as its fine Counts and the Ledger of its noted runs."""
        return list(self._pieces)

    def _fine_part(self, part):
        """Return the part, of either routine, as one of the fine routine."""
        if part.routine == self.routine:
            return self.cover.lift_part(part)
        if part.routine == self.cover.fine:
            return part
        raise OtherRoutine()

    def _known_of_pieces(self, part):
        """Return for each piece what is known of a part of the fine routine."""
        return [known_numbers(counts, self.cover.lift_ledger(noted), part) for counts, noted in self._pieces]

    def _example_of(self, piece, part, number):
        """Return a ledger with the fine counts and the noted runs of the piece, and so many runs that keep."""
        counts, noted = piece
        return self.cover.name_ledger(ledger_with_seen(counts, self.cover.lift_ledger(noted), part, number))

    def known(self, part):
        """Return the least and the greatest number that the part can have had."""
        fine = self._fine_part(part)
        return known_numbers(self.fine_counts(), self.cover.lift_ledger(self.noted()), fine)

    def known_by_pieces(self, part):
        """Return the least and the greatest number that the part can have had, when each piece is known."""
        known = self._known_of_pieces(self._fine_part(part))
        return (sum([lowest for lowest, _ in known]), sum([highest for _, highest in known]))

    def example(self, part, number):
        """Return a Ledger that there can have been, with this number of the part."""
        return self._example_of((self.fine_counts(), self.noted()), self._fine_part(part), number)

    def example_by_pieces(self, part, number):
        """Return a list of Ledgers that the pieces can have been, with this number of the part in all."""
        lowest, highest = self.known_by_pieces(part)
        if number < lowest or number > highest:
            raise NotPossible(lowest, highest)
        fine = self._fine_part(part)
        more = number - lowest
        ledgers = []
        for piece, (low, high) in zip(self._pieces, self._known_of_pieces(fine)):
            taken = least_of([more, high - low])
            ledgers.append(self._example_of(piece, fine, low + taken))
            more = more - taken
        return ledgers

    def mark(self):
        """Store all that is held now, and return the number of the mark."""
        if len(self._marks) == MOST_MARKS:
            raise TooLarge(MOST_MARKS)
        self._marks.append(tuple(self._pieces))
        return len(self._marks)

    def back_to(self, number):
        """Bring back what was held at the mark."""
        if not is_integer(number) or not 1 <= number <= len(self._marks):
            raise NoMark(number)
        self._pieces = list(self._marks[number - 1])

    def fork(self):
        """Return an independent Recorder that holds the same, marks included."""
        made = Recorder(self.routine, watched=self._watched)
        made._pieces = list(self._pieces)
        made._marks = list(self._marks)
        return made

    def __add__(self, other):
        if not isinstance(other, Recorder):
            return NotImplemented
        if self.routine != other.routine or self._watched != other._watched:
            raise OtherRoutine()
        made = Recorder(self.routine, watched=self._watched)
        made._pieces = [*self._pieces, *other._pieces]
        return made
