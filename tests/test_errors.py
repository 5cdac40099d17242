"""The classes of errors (interface, sameclock/errors.py)."""

import unittest

from sameclock import errors


class TestErrors(unittest.TestCase):
    def test_bases(self):
        below = {
            "ClockError": "ValueError", "TextError": "ClockError", "BadCharacter": "TextError",
            "BadNumber": "TextError", "Unexpected": "TextError", "ProgramError": "ClockError",
            "DoubleName": "ProgramError", "UnknownName": "ProgramError", "WrongCount": "ProgramError",
            "FixedName": "ProgramError", "Leak": "ProgramError", "CodeError": "ClockError",
            "BadAllocation": "CodeError", "BadBytes": "CodeError", "BadListing": "CodeError", "Refused": "ClockError",
        }
        for name, base in below.items():
            made = getattr(errors, name)
            self.assertEqual([other.__name__ for other in made.__bases__], [base], name)
            self.assertEqual(made.__module__, "sameclock.errors")

    def test_text_errors(self):
        for made in (errors.TextError, errors.BadCharacter, errors.BadNumber, errors.Unexpected):
            error = made(3, 14)
            self.assertEqual((error.row, error.column), (3, 14))
            self.assertEqual((made(row=1, column=2).row, made(row=1, column=2).column), (1, 2))

    def test_program_errors(self):
        for name in ("ProgramError", "DoubleName", "UnknownName", "WrongCount", "FixedName", "Leak"):
            made = getattr(errors, name)
            self.assertEqual(made("key").word, "key")
            self.assertEqual(made(word="out").word, "out")

    def test_code_errors(self):
        errors.CodeError()
        errors.ClockError()
        errors.BadAllocation()
        errors.BadBytes()
        self.assertEqual(errors.BadListing(7).row, 7)
        self.assertEqual(errors.BadListing(row=7).row, 7)

    def test_refused(self):
        error = errors.Refused(-1, "paper")
        self.assertEqual((error.row, error.word), (-1, "paper"))
        error = errors.Refused(row=4, word="cost")
        self.assertEqual((error.row, error.word), (4, "cost"))

    def test_caught_by_base(self):
        with self.assertRaises(ValueError):
            raise errors.Leak("x")
        with self.assertRaises(errors.ClockError):
            raise errors.Refused(0, "out")


if __name__ == "__main__":
    unittest.main()
