"""Point 2 and whererules/errors.py: the classes of errors, and what they keep."""

import unittest

import whererules.errors as errors
from whererules.errors import (
    AtWar, Broken, Full, InvalidCells, InvalidColumns, InvalidGiven, InvalidMark, InvalidNumber, InvalidRow,
    InvalidRule, InvalidRules, InvalidSettled, InvalidTable, InvalidValue, InvalidView, NotACertificate, NotAtPeace,
    RuleError)

from samples import any_values, nested

TOLD = [InvalidColumns, InvalidRow, InvalidTable, InvalidRule, InvalidRules, InvalidGiven, InvalidCells, InvalidView,
        InvalidSettled, InvalidNumber, InvalidValue, NotAtPeace, NotACertificate]
KEEPING = [(InvalidMark, "number"), (Full, "limit"), (Broken, "found"), (AtWar, "tree")]
NAMES = ["InvalidColumns", "InvalidRow", "InvalidTable", "InvalidRule", "InvalidRules", "InvalidGiven",
         "InvalidCells", "InvalidView", "InvalidSettled", "InvalidNumber", "InvalidValue", "NotAtPeace",
         "NotACertificate", "InvalidMark", "Full", "Broken", "AtWar"]


class Errors(unittest.TestCase):
    def test_rule_error_is_a_value_error_with_a_message(self):
        self.assertEqual(RuleError.__bases__, (ValueError,))
        self.assertEqual(str(RuleError("what is wrong")), "what is wrong")
        with self.assertRaises(ValueError):
            raise RuleError("what is wrong")

    def test_names(self):
        self.assertEqual([kind.__name__ for kind in TOLD + [kind for kind, _ in KEEPING]], NAMES)
        for name in NAMES + ["RuleError"]:
            self.assertEqual(getattr(errors, name).__name__, name)
            self.assertEqual(getattr(errors, name).__module__, "whererules.errors")

    def test_each_is_a_direct_subclass_and_no_other(self):
        kinds = TOLD + [kind for kind, _ in KEEPING]
        for kind in kinds:
            self.assertEqual(kind.__bases__, (RuleError,))
            for other in kinds:
                self.assertEqual(issubclass(kind, other), kind is other)

    def test_created_with_a_message(self):
        for kind in TOLD:
            error = kind("what is wrong")
            self.assertEqual(str(error), "what is wrong")
            with self.assertRaises(kind):
                raise error

    def test_keeps_any_value(self):
        for kind, name in KEEPING:
            for value in any_values() + [("step", 0, 0, ("clash",)), [(0, 1)], {"a": 1}]:
                error = kind(value)
                self.assertIs(getattr(error, name), value)
                self.assertIsInstance(str(error), str)
                with self.assertRaises(RuleError) as caught:
                    raise error
                self.assertIs(getattr(caught.exception, name), value)

    def test_does_not_change_what_it_keeps(self):
        for kind, _ in KEEPING:
            for value in ([], [0, [1]], ([0],), nested(20, list)):
                before = repr(value)
                kind(value)
                self.assertEqual(repr(value), before)


if __name__ == "__main__":
    unittest.main()
