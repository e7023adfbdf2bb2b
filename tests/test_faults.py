"""whererules/faults.py: the errors of drafts, costs and records."""

import unittest

import whererules.faults as faults
from whererules.errors import RuleError
from whererules.faults import InvalidCosts, InvalidDraft, NotARecord

KINDS = [InvalidDraft, InvalidCosts, NotARecord]


class Faults(unittest.TestCase):
    def test_each_is_a_direct_subclass_and_no_other(self):
        for kind in KINDS:
            self.assertEqual(kind.__bases__, (RuleError,))
            self.assertEqual([issubclass(kind, other) for other in KINDS], [kind is other for other in KINDS])

    def test_names(self):
        for name, kind in zip(["InvalidDraft", "InvalidCosts", "NotARecord"], KINDS):
            self.assertIs(getattr(faults, name), kind)
            self.assertEqual((kind.__name__, kind.__module__), (name, "whererules.faults"))

    def test_created_with_a_message(self):
        for kind in KINDS:
            self.assertEqual(str(kind("what is wrong")), "what is wrong")
            with self.assertRaises(RuleError) as caught:
                raise kind("what is wrong")
            self.assertIs(caught.exception.__class__, kind)


if __name__ == "__main__":
    unittest.main()
