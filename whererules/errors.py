"""The errors that the functions and classes of the package raise."""


class RuleError(ValueError):
    """What all errors of the package are."""


class InvalidColumns(RuleError):
    """The argument is no columns."""


class InvalidRow(RuleError):
    """The argument is no row of the columns."""


class InvalidTable(RuleError):
    """The argument is no table of the columns."""


class InvalidRule(RuleError):
    """The argument is no rule for the columns."""


class InvalidRules(RuleError):
    """The argument is no rules for the columns."""


class InvalidGiven(RuleError):
    """The argument is no given for the columns."""


class InvalidCells(RuleError):
    """The argument is no set of the cells that are asked for."""


class InvalidView(RuleError):
    """The argument is no view of the columns."""


class InvalidSettled(RuleError):
    """The argument is no set of settled columns."""


class InvalidNumber(RuleError):
    """The argument is none of the numbers that are asked for."""


class InvalidValue(RuleError):
    """The argument is none of the values that are asked for."""


class NotAtPeace(RuleError):
    """No row keeps all rules."""


class NotACertificate(RuleError):
    """The argument has the form of no certificate."""


class InvalidMark(RuleError):
    """There is no mark with this number."""

    def __init__(self, number):
        super().__init__("there is no mark with this number")
        self.number = number


class Full(RuleError):
    """There are as many as may be: the limit."""

    def __init__(self, limit):
        super().__init__("there are as many as may be")
        self.limit = limit


class Broken(RuleError):
    """The rules do not hold: a break was found."""

    def __init__(self, found):
        super().__init__("the rules do not hold in the table")
        self.found = found


class AtWar(RuleError):
    """The rules cannot be kept, as the tree shows."""

    def __init__(self, tree):
        super().__init__("the rules cannot be kept")
        self.tree = tree
