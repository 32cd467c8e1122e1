"""Points 3, 28, 29, 30 and 36 and the interface of runledger/programs.py."""

import unittest

from runledger.covers import Cover
from runledger.errors import BadBlocks, BadProgram, OtherRoutine
from runledger.programs import Program
from runledger.routines import Routine
from tests import coding, covering, webs

CODE = [((("c", "a", "-", "b"),), ("if", "c", "<", 0, 1, 2)), ((("c", 0, "-", "c"),), ("go", 2)), ((), ("stop",))]
# Its routine is the diamond.
FORKED = [((), ("if", "a", "<", "b", 1, 2)), ((("a", "a", "+", 1),), ("go", 3)), ((("b", "b", "-", 1),), ("go", 3)),
          ((), ("stop",))]
# Its routine is the double diamond.
TWICE = [((), ("if", "a", "<", "b", 1, 2)), ((("a", "a", "+", 3),), ("go", 3)), ((("b", "b", "+", 5),), ("go", 3)),
         ((("c", "a", "-", "b"),), ("if", "c", "<", 2, 4, 5)), ((("d", "d", "+", 1),), ("go", 6)),
         ((("d", "d", "-", 7),), ("go", 6)), ((("e", "c", "+", "d"),), ("stop",))]


def place_of_fault(code):
    """The place that BadProgram tells, or None."""
    try:
        Program(code)
    except BadProgram as error:
        return error.at
    return None


def with_step(step):
    return [((step,), ("go", 1)), ((), ("stop",))]


def with_end(end):
    return [((), ("go", 1)), ((), end), ((), ("go", 3)), ((), ("go", 4)), ((), ("stop",))]


class MakingTest(unittest.TestCase):
    def test_code_and_routine(self):
        program = Program(CODE)
        self.assertEqual(program.code, CODE)
        self.assertIsInstance(program.routine, Routine)
        self.assertEqual((program.routine.blocks, program.routine.jumps), (3, [(0, 1), (0, 2), (1, 2)]))

    def test_routines_of_many_programs(self):
        for blocks in [2, 3, 7, 40]:
            for seed in range(30):
                code = coding.some_program(seed, blocks)
                program = Program(code)
                self.assertEqual((program.routine.blocks, program.routine.jumps), (blocks, coding.jumps_of_ends(code)))
                self.assertEqual(program.code, code)

    def test_number_of_blocks(self):
        for blocks in [0, 1, 41, 42, 200]:
            for code in [[((), ("go", at + 1)) for at in range(blocks)], ["x"] * blocks]:
                self.assertRaises(BadBlocks, Program, code)
        for blocks in [2, 40]:
            code = [*[((), ("go", at + 1)) for at in range(blocks - 1)], ((), ("stop",))]
            self.assertEqual(len(Program(code).routine), blocks - 1)
            self.assertEqual(Program(code).execute({}), (tuple(range(blocks)), []))

    def test_no_block_of_a_program(self):
        good = [((), ("go", 1)), ((), ("go", 2)), ((), ("stop",))]
        for value in [*webs.odd_values(), [(), ("stop",)], [(), ("go", 1)], ((), ("go", 2), ()), ((),), ((), []),
                      ([], ("go", 2)), ([], ("stop",)), (None, ("stop",)), (("go", 2), ()), ((), None), ("", ("go", 2)),
                      ((), {"go": 2}), ({}, ("go", 2)), ((), (("go", 2),)), (((),), ("go", 2)), (((),), ("stop",))]:
            for at in range(3):
                with self.subTest(value, at=at):
                    self.assertEqual(place_of_fault([*good[:at], value, *good[at + 1:]]), at)
                    self.assertEqual(place_of_fault([*good[:at], value, *["x"] * (2 - at)]), at)

    def test_names(self):
        for name in coding.LETTERS:
            self.assertIsNone(place_of_fault(with_step((name, name, "+", name))))
        for name in ["A", "Z", "", "ab", "`", "{", " ", "1", "_", "\u00e4", "\u0430", 1, True, None, ("a",), ["a"]]:
            with self.subTest(name):
                self.assertEqual(place_of_fault(with_step((name, "a", "+", "b"))), 0)

    def test_operands(self):
        for value in [0, 1, -1, 10 ** 9, -10 ** 9, "a", "z"]:
            self.assertIsNone(place_of_fault(with_step(("a", value, "+", "b"))))
            self.assertIsNone(place_of_fault(with_step(("a", "b", "-", value))))
            self.assertIsNone(place_of_fault(with_end(("if", value, "<", "b", 2, 3))))
            self.assertIsNone(place_of_fault(with_end(("if", "b", "==", value, 2, 3))))
        for value in [*[value for value in webs.odd_values() if value != "a" and not type(value) is int],
                      10 ** 9 + 1, -10 ** 9 - 1, 10 ** 39, -10 ** 39, "A", "", "ab", "+", True, False, None, (1,), 1.0]:
            with self.subTest(value):
                self.assertEqual(place_of_fault(with_step(("a", value, "+", "b"))), 0)
                self.assertEqual(place_of_fault(with_step(("a", "b", "-", value))), 0)
                self.assertEqual(place_of_fault(with_end(("if", value, "<", "b", 2, 3))), 1)
                self.assertEqual(place_of_fault(with_end(("if", "b", "==", value, 2, 3))), 1)

    def test_signs_and_tests(self):
        for value in [*webs.odd_values(), "*", "++", "+-", "", " ", ">", "=", "<=", "!=", "is", ("+",), ["<"]]:
            with self.subTest(value):
                self.assertEqual(place_of_fault(with_step(("a", 1, value, "b"))), 0)
                self.assertEqual(place_of_fault(with_end(("if", 1, value, "b", 2, 3))), 1)
        self.assertEqual(place_of_fault(with_step(("a", 1, "<", "b"))), 0)
        self.assertEqual(place_of_fault(with_end(("if", 1, "+", "b", 2, 3))), 1)

    def test_forms_of_steps(self):
        for step in [(), ("a",), ("a", "b", "+"), ("a", "b", "+", "c", "d"), ["a", "b", "+", "c"], "ab+c", None,
                     ("a", "+", "b", "c"), (("a", "b", "+", "c"),), 1]:
            with self.subTest(step):
                self.assertEqual(place_of_fault(with_step(step)), 0)
                good = ("a", 1, "+", 1)
                self.assertEqual(place_of_fault([((good, good, step), ("go", 1)), ((), ("stop",))]), 0)

    def test_number_of_steps(self):
        step = ("a", "a", "+", 1)
        for many in range(5):
            program = Program([((step,) * many, ("go", 1)), ((), ("stop",))])
            self.assertEqual(program.execute({})[1], [("a", many)] if many else [])
        self.assertEqual(place_of_fault([((step,) * 5, ("go", 1)), ((), ("stop",))]), 0)
        self.assertEqual(place_of_fault([((step,) * 4, ("go", 1)), ((step,) * 5, ("stop",))]), 1)

    def test_forms_of_ends(self):
        for end in [("go",), ("go", 2, 3), ("if", "a", "<", "b", 2), ("if", "a", "<", "b", 2, 3, 4), ["go", 2], "go",
                    ("stop",), ("stop", 2), (), ("Go", 2), ("GO", 2), (2, "go"), ("if", 2), ("go", "a", "<", "b", 2, 3),
                    ("if", "a", "<", "b"), ["if", "a", "<", "b", 2, 3], ("jump", 2), (None, 2), None, 2]:
            with self.subTest(end):
                self.assertEqual(place_of_fault(with_end(end)), 1)
        for end in [("go", 2), ("go", 4), ("if", "a", "<", "b", 2, 3), ("if", 0, "==", 0, 4, 2)]:
            self.assertIsNone(place_of_fault(with_end(end)))

    def test_blocks_of_ends(self):
        for block in [*webs.odd_values(), 0, 1, 5, 6, -1, True, False, None, "2", (2,), [2], 2.0]:
            with self.subTest(block):
                self.assertEqual(place_of_fault(with_end(("go", block))), 1)
                self.assertEqual(place_of_fault(with_end(("if", "a", "<", "b", block, 3))), 1)
                self.assertEqual(place_of_fault(with_end(("if", "a", "<", "b", 3, block))), 1)
        for block in [2, 3, 4]:
            self.assertEqual(place_of_fault(with_end(("if", "a", "<", "b", block, block))), 1)
            self.assertIsNone(place_of_fault(with_end(("go", block))))

    def test_last_block(self):
        for end in [*webs.odd_values(), ("go", 1), ("go", 2), ("if", 0, "<", 1, 2, 3), ["stop"], "stop", ("stop", 0),
                    ("stop", "stop"), (("stop",),), ("Stop",), ()]:
            with self.subTest(end):
                self.assertEqual(place_of_fault([((), ("go", 1)), ((), end)]), 1)

    def test_first_fault_is_told(self):
        self.assertEqual(place_of_fault([((), ("go", 2)), "x", "y"]), 1)
        self.assertEqual(place_of_fault([((), ("go", 3)), "x", "y"]), 0)
        self.assertEqual(place_of_fault([((), ("go", 1)), ((), ("go", 2))]), 1)

    def test_equality(self):
        known = [CODE, FORKED, TWICE, CODE[1:], [CODE[0], ((), ("go", 2)), CODE[2]],
                 [((("c", "a", "+", "b"),), CODE[0][1]), *CODE[1:]]]
        known[3] = [((("c", 0, "-", "c"),), ("go", 1)), ((), ("stop",))]
        for at, one in enumerate(known):
            for place, other in enumerate(known):
                self.assertIs(Program(one) == Program(list(other)), at == place)
                self.assertIs(Program(one) != Program(list(other)), at != place)
        for value in [*webs.odd_values(), CODE, Program(CODE).routine]:
            self.assertIs(Program(CODE) == value, False)
            self.assertIs(Program(CODE) != value, True)


class ExecuteTest(unittest.TestCase):
    def test_many_programs_on_many_inputs(self):
        for blocks in [2, 3, 8, 40]:
            for seed in range(25):
                code = coding.some_program(seed, blocks)
                program = Program(code)
                for at in range(8):
                    inputs = coding.some_inputs(at)
                    told = program.execute(inputs)
                    self.assertIsInstance(told, tuple)
                    self.assertEqual(told, coding.slow_execute(code, inputs))
                    self.assertTrue(program.routine.is_run(told[0]))
                    self.assertIsInstance(told[1], list)

    def test_values(self):
        program = Program(CODE)
        self.assertEqual(program.execute({"a": 3, "b": 8}), ((0, 1, 2), [("a", 3), ("b", 8), ("c", 5)]))
        self.assertEqual(program.execute({"b": 8, "a": 8}), ((0, 2), [("a", 8), ("b", 8)]))
        self.assertEqual(program.execute({}), ((0, 2), []))
        self.assertEqual(program.execute({"z": -5, "c": 4, "m": 0}), ((0, 2), [("z", -5)]))

    def test_steps_use_what_earlier_steps_made(self):
        steps = (("b", "a", "+", "a"), ("a", "b", "-", 1), ("b", "a", "+", "b"), ("a", "a", "-", "a"))
        program = Program([(steps, ("go", 1)), ((("c", "b", "+", "a"),), ("stop",))])
        self.assertEqual(program.execute({"a": 5}), ((0, 1), [("b", 19), ("c", 19)]))

    def test_steps_of_the_last_block(self):
        program = Program([((), ("go", 1)), ((("a", 7, "-", 9),), ("stop",))])
        self.assertEqual(program.execute({}), ((0, 1), [("a", -2)]))

    def test_tests(self):
        for test, holds in [("<", lambda a, b: a < b), ("==", lambda a, b: a == b)]:
            program = Program([((), ("if", "a", test, "b", 2, 1)), ((), ("go", 2)), ((), ("stop",))])
            for a in [-10 ** 9, -1, 0, 1, 10 ** 9]:
                for b in [-10 ** 9, -1, 0, 1, 10 ** 9]:
                    self.assertEqual(program.execute({"a": a, "b": b})[0], (0, 2) if holds(a, b) else (0, 1, 2))

    def test_forty_blocks_that_double(self):
        steps = (("a", "a", "+", "a"),) * 4
        code = [*[(steps, ("go", at + 1)) for at in range(39)], (steps, ("stop",))]
        self.assertEqual(Program(code).execute({"a": 10 ** 9}), (tuple(range(40)), [("a", 10 ** 9 * 2 ** 160)]))
        self.assertEqual(Program(code).execute({"a": -1})[1], [("a", -2 ** 160)])

    def test_inputs_stay_as_they_are(self):
        program, inputs = Program(CODE), {"a": 3, "b": 8, "x": 0}
        told = program.execute(inputs)
        self.assertEqual(inputs, {"a": 3, "b": 8, "x": 0})
        told[1].clear()
        inputs.clear()
        self.assertEqual(program.execute({"a": 3, "b": 8}), ((0, 1, 2), [("a", 3), ("b", 8), ("c", 5)]))
        self.assertEqual(program.execute({"b": 8, "a": 3}), program.execute({"a": 3, "b": 8}))


class CoveredTest(unittest.TestCase):
    def check(self, program, cover, inputs):
        covered = program.covered(cover)
        self.assertIsInstance(covered, Program)
        self.assertTrue(covered.routine == cover.fine)
        for at, name in enumerate(cover.names):
            (steps, end), (wanted, base_end) = covered.code[at], program.code[name]
            self.assertEqual((steps, end[:-2], len(end)), (wanted, base_end[:-2], len(base_end)))
        for values in inputs:
            run, told = program.execute(values)
            self.assertEqual(covered.execute(values), (cover.lift(run), told))
            self.assertEqual(cover.name(covered.execute(values)[0]), run)

    def test_programs_and_their_covers_on_many_inputs(self):
        inputs = [coding.some_inputs(seed) for seed in range(6)]
        for seed in range(12):
            program = Program(coding.some_program(seed, 7))
            for cover in covering.some_covers(program.routine):
                self.check(program, cover, inputs)
        for code in [FORKED, TWICE, CODE]:
            for cover in covering.some_covers(Program(code).routine):
                self.check(Program(code), cover, inputs)

    def test_covered_again(self):
        program = Program(TWICE)
        cover = Cover.watching(program.routine, [3])
        again = Cover.watching(cover.fine, [5, 6])
        self.assertTrue(program.covered(cover).covered(again) == program.covered(cover.then(again)))

    def test_copying_watching_and_making_one_change_nothing(self):
        program = Program(TWICE)
        cover = Cover.plain(program.routine).copied(3, [(1, 3)])
        inputs = [{"a": a, "b": b} for a in range(-3, 8) for b in range(-3, 8)]
        self.check(program, cover, inputs)
        self.check(program, cover.made_one(3, 4), inputs)
        self.check(program, Cover.watching(program.routine, [3, 6 - 1]), inputs)
        self.assertTrue(program.covered(cover.made_one(3, 4)) == program)

    def test_names_in_another_order(self):
        program = Program(FORKED)
        cover = Cover(program.routine, [0, 2, 1, 3], program.routine.jumps)
        self.assertEqual(program.covered(cover).code, [((), ("if", "a", "<", "b", 2, 1)), FORKED[2], FORKED[1],
                                                       FORKED[3]])

    def test_plain_cover(self):
        for seed in range(10):
            program = Program(coding.some_program(seed, 40))
            self.assertTrue(program.covered(Cover.plain(program.routine)) == program)

    def test_other_routine(self):
        program = Program(FORKED)
        for web in [webs.double(), Routine(4, webs.DIAMOND_JUMPS[1:]), Routine(4, [*webs.DIAMOND_JUMPS, (0, 3)])]:
            self.assertRaises(OtherRoutine, program.covered, Cover.plain(web))
        cover = Cover.plain(Program(TWICE).routine).copied(3, [(1, 3)])
        self.assertRaises(OtherRoutine, Program(TWICE).covered(cover).covered, cover)
        self.assertTrue(program.covered(Cover.plain(Routine(4, webs.DIAMOND_JUMPS[::-1]))) == program)


class CopiesTest(unittest.TestCase):
    def test_handed_in_lists_changed_later(self):
        code = list(CODE)
        program = Program(code)
        code[0] = code[1]
        code.append("x")
        self.assertEqual((program.code, program.execute({"b": 1})), (CODE, ((0, 1, 2), [("b", 1), ("c", 1)])))

    def test_told_lists_changed_later(self):
        program = Program(CODE)
        program.code.clear()
        program.routine.jumps.clear()
        self.assertEqual((program.code, program.routine.jumps), (CODE, [(0, 1), (0, 2), (1, 2)]))
        self.assertIsNot(program.code, program.code)

    def test_arguments_by_name(self):
        program = Program(blocks=CODE)
        self.assertEqual(program.execute(inputs={"a": 1}), ((0, 2), [("a", 1), ("c", 1)]))
        self.assertTrue(program.covered(cover=Cover.plain(program.routine)) == program)


if __name__ == "__main__":
    unittest.main()
