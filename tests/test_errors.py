"""Point 35: the errors, their bases and their fields."""

import unittest

from runledger import errors

FIELDS = {
    "BadBlocks": [], "BadJump": ["at"], "TooLarge": ["bound"], "NoBlock": ["block"], "NoJump": ["jump"],
    "NoRun": ["run"], "NoItem": ["item"], "NotInner": ["block"], "OtherRoutine": [], "BadCount": ["at"],
    "Uneven": ["block"], "BadNumber": [], "BadEntry": ["at"], "NotPassed": ["block"], "NotEnough": ["run"],
    "NoCeiling": [], "NoFloor": [], "NotPossible": ["least", "greatest"], "NotSeen": ["jump"],
    "OtherCounts": ["jump"], "BadCover": [], "BadIns": [], "NotTwins": [], "BadProgram": ["at"],
    "NoMark": ["number"], "BadText": ["line"],
}


class ErrorsTest(unittest.TestCase):
    def test_bases(self):
        self.assertEqual(errors.RunError.__bases__, (ValueError,))
        for name in FIELDS:
            with self.subTest(name):
                self.assertEqual(getattr(errors, name).__bases__, (errors.RunError,))

    def test_all_are_defined_in_the_file(self):
        for name in ["RunError", *FIELDS]:
            with self.subTest(name):
                self.assertEqual(getattr(errors, name).__module__, "runledger.errors")
                self.assertEqual(getattr(errors, name).__name__, name)

    def test_no_others(self):
        classes = [name for name, value in vars(errors).items() if isinstance(value, type)]
        self.assertEqual(sorted(classes), sorted(["RunError", *FIELDS]))

    def test_fields_by_position(self):
        for name, fields in FIELDS.items():
            with self.subTest(name):
                error = getattr(errors, name)(*range(7, 7 + len(fields)))
                self.assertEqual(vars(error), {field: 7 + at for at, field in enumerate(fields)})

    def test_fields_by_name(self):
        for name, fields in FIELDS.items():
            with self.subTest(name):
                error = getattr(errors, name)(**{field: 7 + at for at, field in enumerate(fields)})
                self.assertEqual(vars(error), {field: 7 + at for at, field in enumerate(fields)})

    def test_fields_are_as_they_were_handed_in(self):
        for value in [None, True, [1, [2]], (0, "a"), 10 ** 39]:
            for name, fields in FIELDS.items():
                with self.subTest(name, value=value):
                    error = getattr(errors, name)(*[value for _ in fields])
                    for field in fields:
                        self.assertIs(getattr(error, field), value)

    def test_raised_and_caught(self):
        for name, fields in FIELDS.items():
            with self.subTest(name), self.assertRaises(errors.RunError):
                raise getattr(errors, name)(*fields)


if __name__ == "__main__":
    unittest.main()
