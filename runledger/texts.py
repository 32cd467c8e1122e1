"""The texts of counts and ledgers."""

from runledger.counts import Counts
from runledger.errors import BadText
from runledger.ledgers import Ledger, is_entry
from runledger.lines import digits_of, lines_of, numbers_of, rows_of
from runledger.routines import Routine


def show(counts):
    """Return the text of the counts."""
    rows = [f"{u} {v} {digits_of(counts[(u, v)])}" for u, v in counts.routine.jumps]
    return "\n".join([f"blocks {counts.routine.blocks}", *rows])


def show_ledger(ledger):
    """Return the text of the ledger."""
    rows = [[digits_of(times), *[str(block) for block in run]] for run, times in ledger.entries]
    return "\n".join([" ".join(row) for row in rows])


def read(text):
    """Return the Counts of which this is the text."""
    blocks, rows = rows_of(text, 3)
    routine = Routine(blocks, [(u, v) for u, v, _ in rows])
    return Counts(routine, [((u, v), number) for u, v, number in rows])


def read_ledger(routine, text):
    """Return the Ledger of the routine of which this is the text."""
    # The empty string is the text of no entries, and so has no lines.
    lines = [] if text == "" else lines_of(text)
    entries = []
    last = ()
    for at, line in enumerate(lines, start=1):
        numbers = numbers_of(line)
        run = tuple(numbers[1:])
        entry = (run, *numbers[:1])
        if not is_entry(entry, routine) or run <= last:
            raise BadText(at)
        entries.append(entry)
        last = run
    return Ledger(routine, entries)
