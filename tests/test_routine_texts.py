"""Point 34, as far as it speaks of the text of a routine, and BadText."""

import unittest

from runledger.errors import BadText
from runledger.routines import Routine
from tests import webs

LONG_NUMBER = "1" * 6000


class RoutineTextTest(unittest.TestCase):
    def check_bad(self, text, line):
        with self.subTest(text if not isinstance(text, str) else text[:200]), self.assertRaises(BadText) as caught:
            Routine.parse(text)
        self.assertEqual(caught.exception.line, line)

    def test_text(self):
        self.assertEqual(str(Routine(4, [(1, 3), (0, 1), (2, 3), (0, 2)])), "blocks 4\n0 1\n0 2\n1 3\n2 3")
        self.assertEqual(str(Routine(2, [])), "blocks 2")
        self.assertEqual(str(Routine(12, [(9, 11), (9, 10), (2, 10), (10, 11)])), "blocks 12\n2 10\n9 10\n9 11\n10 11")

    def test_text_read_back(self):
        routines = [*webs.all_webs(4), webs.ladder(), Routine(40, webs.all_pairs(40)[-120:]), Routine(40, [])]
        for web in routines:
            read = Routine.parse(str(web))
            self.assertEqual(read, web)
            self.assertEqual((read.blocks, read.jumps), (web.blocks, web.jumps))

    def test_no_string(self):
        for value in webs.odd_values():
            self.check_bad(value, 1)

    def test_first_line(self):
        for text in ["", "\n", " ", "blocks", "blocks ", "blocks 3 ", " blocks 3", "blocks  3", "blocks 3 4", "block 3",
                     "Blocks 3", "BLOCKS 3", "blocks3", "3", "3 blocks", "blocks x", "blocks -3", "blocks +3",
                     "blocks 03", "blocks 3.0", "blocks 3_0", "blocks 1e1", "blocks 0x3", "blocks\t3", "blocks 3\r",
                     "blocks three", "blocks blocks 3", "0 1", "\nblocks 3"]:
            self.check_bad(text, 1)
            self.check_bad(text + "\n0 1", 1)

    def test_number_of_blocks(self):
        for blocks in [2, 9, 10, 39, 40]:
            self.assertEqual(Routine.parse(f"blocks {blocks}\n0 1").blocks, blocks)
        for blocks in ["0", "1", "41", "42", "400", "00", "002", str(10 ** 30), str(10 ** 39), LONG_NUMBER]:
            self.check_bad("blocks " + blocks, 1)
            self.check_bad("blocks " + blocks + "\n0 1", 1)

    def test_digits_of_other_scripts(self):
        for digit in ["\u00b3", "\u0663", "\uff13", "\u2462"]:
            self.check_bad("blocks " + digit, 1)
            self.check_bad("blocks 4\n0 " + digit, 2)

    def test_form_of_a_jump(self):
        for row in ["", " ", "0", "0 ", "0  2", " 0 2", "0 2 ", "0 2 3", "0 2 1", "0,2", "0\t2", "(0, 2)", "0 2\r",
                    "a b", "0 b", "00 2", "0 02", "-0 2", "+0 2", "0 +2", "0 -2", "0x0 2", "0 2_", "0 2.",
                    "blocks 4", "0 2#"]:
            self.check_bad("blocks 4\n" + row, 2)
            self.check_bad("blocks 4\n0 1\n" + row, 3)
            self.check_bad("blocks 4\n0 1\n" + row + "\n2 3", 3)

    def test_no_jump(self):
        for row in ["1 0", "1 1", "0 0", "3 3", "0 4", "3 4", "4 5", "0 40", "2 " + str(10 ** 39), "0 " + LONG_NUMBER,
                    LONG_NUMBER + " " + LONG_NUMBER]:
            self.check_bad("blocks 4\n" + row, 2)
            self.check_bad("blocks 4\n0 1\n" + row, 3)

    def test_last_block_of_a_jump(self):
        self.assertEqual(Routine.parse("blocks 4\n0 3\n2 3").jumps, [(0, 3), (2, 3)])
        self.assertEqual(Routine.parse("blocks 40\n38 39").jumps, [(38, 39)])

    def test_jump_that_does_not_come_after_the_earlier_ones(self):
        self.check_bad("blocks 4\n0 1\n0 1", 3)
        self.check_bad("blocks 4\n0 2\n0 1", 3)
        self.check_bad("blocks 4\n1 2\n0 3", 3)
        self.check_bad("blocks 4\n0 1\n1 3\n1 2\n0 2", 4)
        self.check_bad("blocks 12\n2 10\n2 9", 3)
        self.assertEqual(Routine.parse("blocks 12\n2 9\n2 10\n10 11").jumps, [(2, 9), (2, 10), (10, 11)])

    def test_empty_lines(self):
        self.check_bad("blocks 4\n", 2)
        self.check_bad("blocks 4\n0 1\n", 3)
        self.check_bad("blocks 4\n\n0 1", 2)
        self.check_bad("blocks 4\n0 1\n\n1 2", 3)
        self.check_bad("blocks 4\n0 1\n\n", 3)

    def test_a_hundred_and_twenty_jumps_and_one_more(self):
        rows = [f"{u} {v}" for u, v in webs.all_pairs(40)]
        most = "\n".join(["blocks 40", *rows[:120]])
        self.assertEqual(len(Routine.parse(most)), 120)
        self.check_bad(most + "\n" + rows[120], 122)
        self.check_bad(most + "\n", 122)
        self.check_bad("\n".join(["blocks 40", *rows]), 122)

    def test_first_invalid_line_is_told(self):
        self.check_bad("blocks 41\n1 0\nx", 1)
        self.check_bad("blocks 4\nx\n1 0\n", 2)
        self.check_bad("blocks 4\n0 1\n3 1\nx\n", 3)
        rows = [f"{u} {v}" for u, v in webs.all_pairs(40)]
        self.check_bad("\n".join(["blocks 40", *rows[:60], "x", *rows[60:]]), 62)

    def test_long_texts(self):
        self.check_bad("blocks 4\n" + "0" * 19000, 2)
        self.check_bad("~" * 19000, 1)
        self.check_bad("\n" * 19000, 1)
        self.check_bad("blocks 4" + "\n" * 19000, 2)


if __name__ == "__main__":
    unittest.main()
