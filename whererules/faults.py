"""The errors of drafts, costs and records."""

from whererules.errors import RuleError


class InvalidDraft(RuleError):
    """The argument is no draft of the columns."""


class InvalidCosts(RuleError):
    """The argument is no costs of the columns."""


class NotARecord(RuleError):
    """The argument has the form of no record."""
