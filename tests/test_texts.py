"""Points 3, 34, 36 and 37 and the interface of runledger/texts.py."""

import re
import unittest

from runledger.counts import Counts
from runledger.errors import BadText, Uneven
from runledger.ledgers import Ledger
from runledger.recorder import Recorder
from runledger.routines import Routine
from runledger.texts import read, read_ledger, show, show_ledger
from tests import search, webs
from tests.webs import BIG

LONG_NUMBER = "1" * 6000
SIGNS = " 0123456789bk-+.,;#~\n"
COUNTS_TEXT = "blocks 4\n0 1 2\n0 2 1\n1 3 2\n2 3 1"


def slow_row(line, words):
    """The numbers of a line with so many words (None: any number of them), or None."""
    if not re.fullmatch("(0|[1-9][0-9]*)( (0|[1-9][0-9]*))*", line) or not line.isascii():
        return None
    numbers = [int(word) if len(word) < 50 else 10 ** 50 for word in line.split(" ")]
    return numbers if words is None or len(numbers) == words else None


def slow_read(text, words):
    """What the reading of a routine (2 words) or of counts (3) must give: (blocks, rows), or the line of the fault."""
    lines = text.split("\n")
    if not re.fullmatch("blocks ([2-9]|[123][0-9]|40)", lines[0]) or not lines[0].isascii():
        return 1
    blocks, rows = int(lines[0][7:]), []
    for at, line in enumerate(lines[1:], start=2):
        row = slow_row(line, words)
        if row is None or not row[0] < row[1] < blocks or max(row) > BIG or len(rows) == 120:
            return at
        if rows and rows[-1][:2] >= row[:2]:
            return at
        rows.append(row)
    return blocks, rows


def slow_read_ledger(web, text):
    """The entries that the reading of a ledger must give, or the line of the fault."""
    entries = []
    runs = webs.slow_runs(web.blocks, web.jumps)
    for at, line in enumerate(text.split("\n") if text else [], start=1):
        row = slow_row(line, None)
        if row is None or tuple(row[1:]) not in runs or not 1 <= row[0] <= BIG:
            return at
        if entries and entries[-1][0] >= tuple(row[1:]):
            return at
        entries.append((tuple(row[1:]), row[0]))
    return entries


def with_one_sign_changed(text):
    """All texts with one sign put in, left out or changed."""
    for at in range(len(text) + 1):
        yield from (text[:at] + sign + text[at:] for sign in SIGNS)
        if at < len(text):
            yield text[:at] + text[at + 1:]
            yield from (text[:at] + sign + text[at + 1:] for sign in SIGNS)


def uneven_of(blocks, rows):
    for block in range(1, blocks - 1):
        if sum(often for _, v, often in rows if v == block) != sum(often for u, _, often in rows if u == block):
            return block
    return None


class TextsTest(unittest.TestCase):
    def check_bad(self, text, line):
        with self.subTest(text if not isinstance(text, str) else text[:200]), self.assertRaises(BadText) as caught:
            read(text)
        self.assertEqual(caught.exception.line, line)

    def check_bad_ledger(self, web, text, line):
        with self.subTest(text if not isinstance(text, str) else text[:200]), self.assertRaises(BadText) as caught:
            read_ledger(web, text)
        self.assertEqual(caught.exception.line, line)


class CountsTest(TextsTest):
    def test_text(self):
        counts = Counts(webs.diamond(), [((0, 1), 2), ((0, 2), 1), ((1, 3), 2), ((2, 3), 1)])
        self.assertEqual(show(counts), COUNTS_TEXT)
        self.assertTrue(read(COUNTS_TEXT) == counts)
        self.assertIsInstance(read(COUNTS_TEXT), Counts)
        self.assertEqual(show(Counts(webs.diamond(), [])), "blocks 4\n0 1 0\n0 2 0\n1 3 0\n2 3 0")

    def test_texts_without_jumps(self):
        for blocks in [2, 3, 40]:
            counts = Counts(Routine(blocks, []), [])
            self.assertEqual(show(counts), f"blocks {blocks}")
            self.assertTrue(read(f"blocks {blocks}") == counts)

    def test_read_back(self):
        for web, most in [(webs.full_web(4), 2), (webs.double(), 3), (webs.web_with_dead_ends(), 2)]:
            for counts in search.few_counts(web, most):
                self.assertTrue(read(show(counts)) == counts)
        for web in [webs.ladder(), webs.wide_ladder(), Routine(40, webs.all_pairs(40)[-120:])]:
            counts = Ledger(web, [(run, BIG) for run in [next(web.all_runs(), None)] if run]).counts()
            self.assertTrue(read(show(counts)) == counts)
            self.assertEqual(len(show(counts).split("\n")), 1 + len(web))

    def test_text_of_the_routine_with_counts(self):
        for web in webs.all_webs(4):
            counts = Counts(web, [])
            rows = str(web).split("\n")
            self.assertEqual(show(counts), "\n".join([rows[0], *[row + " 0" for row in rows[1:]]]))

    def test_one_sign_put_in_left_out_or_changed(self):
        longer = "blocks 12\n0 9 11\n0 10 2\n9 10 10\n9 11 1\n10 11 12"
        for text in [COUNTS_TEXT, longer, "blocks 2\n0 1 0", "blocks 3"]:
            for changed in with_one_sign_changed(text):
                expected = slow_read(changed, 3)
                if isinstance(expected, int):
                    self.check_bad(changed, expected)
                    continue
                uneven = uneven_of(*expected)
                if uneven is None:
                    self.assertEqual(show(read(changed)), changed)
                else:
                    with self.assertRaises(Uneven) as caught:
                        read(changed)
                    self.assertEqual(caught.exception.block, uneven)

    def test_no_string(self):
        for value in webs.odd_values():
            self.check_bad(value, 1)
        for value in [None, 1, ["blocks 2"], ("blocks 2",), b"blocks 2", [COUNTS_TEXT]]:
            self.check_bad(value, 1)

    def test_wrong_lines(self):
        for row in ["", " ", "0 1", "0 1 ", "0 1 2 3", "0 1  2", " 0 1 2", "0 1 2 ", "0 1 -2", "0 1 02", "0 1 +2",
                    "0 1 2.0", "0 1 x", "0 1 1_0", "1 0 2", "1 1 2", "0 4 2", "0 1 1e3", "0\t1 2", "0 1 2\r", "0,1,2",
                    "0 1 " + LONG_NUMBER, "0 " + LONG_NUMBER + " 1", "0 1 \u0663", "0 1 \u00b2", "blocks 4"]:
            self.check_bad("blocks 4\n" + row, 2)
            self.check_bad("blocks 4\n" + row + "\n1 3 2\nx", 2)
            self.check_bad("blocks 4\n0 1 2\n" + row, 3)
        for first in ["", "blocks", "blocks 1", "blocks 0", "blocks 41", "blocks 04", "blocks 4 ", " blocks 4", "4",
                      "blocks 4 0 1 2", "block 4", "blocks " + LONG_NUMBER]:
            self.check_bad(first, 1)
            self.check_bad(first + "\n0 1 2\nx", 1)

    def test_empty_lines_and_a_last_newline(self):
        self.check_bad("", 1)
        self.check_bad("\n", 1)
        self.check_bad(COUNTS_TEXT + "\n", 6)
        self.check_bad("blocks 4\n\n0 1 2", 2)

    def test_jumps_that_do_not_come_after_the_earlier_ones(self):
        self.check_bad("blocks 4\n0 2 1\n0 1 1", 3)
        self.check_bad("blocks 4\n0 1 1\n0 1 1", 3)
        self.check_bad("blocks 4\n0 1 1\n0 1 2", 3)
        self.check_bad("blocks 12\n0 10 1\n0 9 1", 3)

    def test_a_hundred_and_twenty_jumps_and_one_more(self):
        rows = [f"{u} {v} 0" for u, v in webs.all_pairs(40)]
        self.assertEqual(len(read("\n".join(["blocks 40", *rows[:120]])).routine), 120)
        self.check_bad("\n".join(["blocks 40", *rows[:121]]), 122)
        self.check_bad("\n".join(["blocks 40", *rows]), 122)

    def test_counts_of_10_to_the_30_and_beyond(self):
        self.assertEqual(read(f"blocks 2\n0 1 {BIG}").total, BIG)
        for number in [BIG + 1, 10 * BIG, 2 * BIG, 10 ** 31 - 1, 10 ** 39]:
            self.check_bad(f"blocks 2\n0 1 {number}", 2)
        counts = Counts(Routine(2, [(0, 1)]), [((0, 1), BIG)])
        self.assertEqual(show(9 * counts), f"blocks 2\n0 1 {9 * BIG}")
        self.check_bad(show(counts + counts), 2)

    def test_counts_of_very_many_digits(self):
        counts, times = Counts(Routine(3, [(0, 1), (1, 2)]), [((0, 1), 7), ((1, 2), 7)]), 7
        for at in range(4600):
            if at % 500 == 0 or at in (62, 63, 64):
                self.assertEqual(show(counts), f"blocks 3\n0 1 {times}\n1 2 {times}")
            counts, times = 9 * counts, 9 * times
        text = show(counts)
        digits = text.split("\n")[1][4:]
        self.assertGreater(len(digits), 4300)
        self.assertEqual(text, f"blocks 3\n0 1 {digits}\n1 2 {digits}")
        self.assertTrue(digits.isdigit() and not digits.startswith("0"))
        number = 0
        for digit in digits:
            number = 10 * number + int(digit)
        self.assertEqual(number, times)

    def test_zeros_within_long_numbers(self):
        for number in [10 ** 59, 10 ** 60 - 1, 10 ** 60, 10 ** 60 + 5, 10 ** 120, 10 ** 121 + 10 ** 60, 3 * 10 ** 180]:
            counts = Counts(Routine(2, [(0, 1)]), [])
            one, left = Counts(Routine(2, [(0, 1)]), [((0, 1), 1)]), number
            while left:
                left, digit = divmod(left, 2)
                counts = counts + digit * one
                one = one + one
            self.assertEqual((counts.total, show(counts)), (number, f"blocks 2\n0 1 {number}"))

    def test_uneven(self):
        for text, block in [("blocks 4\n0 1 2\n0 2 1\n1 3 2\n2 3 2", 2), ("blocks 4\n0 1 2\n0 2 1\n1 3 1\n2 3 2", 1),
                            ("blocks 3\n0 1 1", 1), ("blocks 3\n0 2 5\n1 2 1", 1)]:
            with self.assertRaises(Uneven) as caught:
                read(text)
            self.assertEqual(caught.exception.block, block)

    def test_bad_text_comes_before_uneven(self):
        self.check_bad("blocks 4\n0 1 2\n0 2 1\n1 3 2\n2 3 2\n", 6)
        self.check_bad("blocks 3\n0 1 1\n1 2 x", 3)

    def test_long_texts(self):
        self.check_bad("blocks 4\n" + "0 " * 9900, 2)
        self.check_bad("blocks 4\n" + "0" * 19000, 2)
        self.check_bad("~" * 19999, 1)
        self.check_bad("\n" * 19999, 1)


class LedgersTest(TextsTest):
    def test_text(self):
        ledger = Ledger(webs.diamond(), [((0, 2, 3), 1), ((0, 1, 3), 2)])
        self.assertEqual(show_ledger(ledger), "2 0 1 3\n1 0 2 3")
        self.assertTrue(read_ledger(webs.diamond(), "2 0 1 3\n1 0 2 3") == ledger)
        self.assertIsInstance(read_ledger(webs.diamond(), "2 0 1 3"), Ledger)
        self.assertTrue(read_ledger(webs.diamond(), "2 0 1 3").routine == webs.diamond())

    def test_the_empty_text(self):
        for web in [webs.diamond(), webs.ladder(), *webs.bare_webs()]:
            self.assertEqual(show_ledger(Ledger(web, [])), "")
            self.assertTrue(read_ledger(web, "") == Ledger(web, []))

    def test_read_back(self):
        for web, most in [(webs.full_web(4), 3), (webs.double(), 4), (webs.web_with_dead_ends(), 2)]:
            for entries in search.few_runs(web, most):
                ledger = Ledger(web, entries)
                text = show_ledger(ledger)
                self.assertEqual(text, "\n".join(" ".join(map(str, [times, *run])) for run, times in entries))
                self.assertTrue(read_ledger(web, text) == ledger)

    def test_ascending_by_numbers(self):
        web = Routine(12, [(0, 9), (0, 10), (9, 11), (10, 11)])
        self.assertEqual(show_ledger(Ledger(web, [((0, 10, 11), 1), ((0, 9, 11), 1)])), "1 0 9 11\n1 0 10 11")
        self.check_bad_ledger(web, "1 0 10 11\n1 0 9 11", 2)

    def test_one_sign_put_in_left_out_or_changed(self):
        web, other = webs.full_web(4), Routine(12, [(0, 1), (0, 10), (1, 11), (10, 11), (0, 11)])
        for web, text in [(web, "2 0 1 2 3\n1 0 1 3\n10 0 3"), (web, "1 0 3"), (web, ""),
                          (other, "12 0 1 11\n3 0 10 11\n40 0 11")]:
            for changed in with_one_sign_changed(text):
                expected = slow_read_ledger(web, changed)
                if isinstance(expected, int):
                    self.check_bad_ledger(web, changed, expected)
                else:
                    self.assertEqual(read_ledger(web, changed).entries, expected)
                    self.assertEqual(show_ledger(read_ledger(web, changed)), changed)

    def test_no_string(self):
        for value in [*webs.odd_values(), None, 1, [], ["1 0 1 3"], (), b"1 0 1 3"]:
            if not isinstance(value, str):
                self.check_bad_ledger(webs.diamond(), value, 1)

    def test_wrong_lines(self):
        for row in ["", " ", "0", "1", "1 ", "0 1 3", "1 0 3", "1 0 1 2 3", "1 0 1", "1 1 3", "0 0 1 3", "00 0 1 3",
                    "01 0 1 3", "-1 0 1 3", "+1 0 1 3", "1  0 1 3", " 1 0 1 3", "1 0 1 3 ", "1 0 1 03", "x 0 1 3",
                    "1 0 1 x", "1 0 1 3 3", "1,0,1,3", "1\t0 1 3", "1 0 1 3\r", "1.0 0 1 3", "\u0661 0 1 3",
                    LONG_NUMBER + " 0 1 3", "1 0 1 " + LONG_NUMBER, "1 0 1 4", "1 (0, 1, 3)", "blocks 4"]:
            if row:
                self.check_bad_ledger(webs.diamond(), row, 1)
            self.check_bad_ledger(webs.diamond(), row + "\n1 0 2 3\nx", 1)
            self.check_bad_ledger(webs.diamond(), "1 0 1 3\n" + row, 2)

    def test_empty_lines_and_a_last_newline(self):
        self.check_bad_ledger(webs.diamond(), "\n", 1)
        self.check_bad_ledger(webs.diamond(), "1 0 1 3\n", 2)
        self.check_bad_ledger(webs.diamond(), "\n1 0 1 3", 1)
        self.check_bad_ledger(webs.diamond(), "1 0 1 3\n\n1 0 2 3", 2)

    def test_runs_that_do_not_come_after_the_earlier_ones(self):
        self.check_bad_ledger(webs.diamond(), "1 0 2 3\n1 0 1 3", 2)
        self.check_bad_ledger(webs.diamond(), "1 0 1 3\n1 0 1 3", 2)
        self.check_bad_ledger(webs.diamond(), "1 0 1 3\n2 0 1 3", 2)

    def test_times_of_10_to_the_30_and_beyond(self):
        web = webs.diamond()
        self.assertEqual(read_ledger(web, f"{BIG} 0 1 3").entries, [((0, 1, 3), BIG)])
        for number in [0, BIG + 1, 10 * BIG, 9 * BIG, 10 ** 31 - 1, 10 ** 39]:
            self.check_bad_ledger(web, f"{number} 0 1 3", 1)
        ledger = Ledger(web, [((0, 1, 3), BIG), ((0, 1, 3), BIG)])
        self.assertEqual(show_ledger(ledger), f"{2 * BIG} 0 1 3")
        self.check_bad_ledger(web, show_ledger(ledger), 1)

    def test_times_of_very_many_digits(self):
        ledger = Ledger(webs.diamond(), [((0, 2, 3), BIG)])
        for _ in range(4600):
            ledger = 9 * ledger
        digits, rest = show_ledger(ledger).split(" ", 1)
        self.assertEqual(rest, "0 2 3")
        self.assertTrue(len(digits) > 4300 and digits.isdigit())

    def test_ledgers_of_a_recorder(self):
        recorder = Recorder(webs.double(), watched=[3])
        recorder.note((0, 1, 3, 4, 6), times=BIG)
        recorder.note((0, 1, 3, 4, 6), times=BIG)
        self.assertEqual(show_ledger(recorder.noted()), f"{2 * BIG} 0 1 3 4 6")
        self.assertEqual(show(recorder.fine_counts()).split("\n")[0], "blocks 8")

    def test_arguments_by_name(self):
        ledger = Ledger(webs.diamond(), [((0, 1, 3), 2), ((0, 2, 3), 1)])
        self.assertEqual((show(counts=ledger.counts()), show_ledger(ledger=ledger)), (COUNTS_TEXT, "2 0 1 3\n1 0 2 3"))
        self.assertTrue(read(text=COUNTS_TEXT) == ledger.counts())
        self.assertTrue(read_ledger(text="2 0 1 3\n1 0 2 3", routine=webs.diamond()) == ledger)

    def test_equal_things_made_otherwise(self):
        turned = Routine(4, webs.DIAMOND_JUMPS[::-1])
        ledger = Ledger(turned, [((0, 2, 3), 1), ((0, 1, 3), 1), ((0, 1, 3), 1)])
        self.assertEqual((show(ledger.counts()), show_ledger(ledger)), (COUNTS_TEXT, "2 0 1 3\n1 0 2 3"))
        for counts in search.made_otherwise(ledger.counts()):
            self.assertEqual(show(counts), COUNTS_TEXT)


class RoutinesTest(unittest.TestCase):
    def test_one_sign_put_in_left_out_or_changed(self):
        for text in ["blocks 4\n0 1\n0 2\n1 3\n2 3", "blocks 12\n0 9\n0 10\n9 11", "blocks 40\n38 39", "blocks 2"]:
            for changed in with_one_sign_changed(text):
                expected = slow_read(changed, 2)
                if isinstance(expected, int):
                    with self.subTest(changed), self.assertRaises(BadText) as caught:
                        Routine.parse(changed)
                    self.assertEqual(caught.exception.line, expected)
                else:
                    self.assertEqual(str(Routine.parse(changed)), changed)


if __name__ == "__main__":
    unittest.main()
