"""All errors that the package raises."""


class RetimeError(ValueError):
    """The base of all errors of the package."""


class InconsistentLags(RetimeError):
    """Lags with a cycle that has a positive total; `cycle` is the tuple of its nodes."""

    def __init__(self, cycle):
        RetimeError.__init__(self, f"the lags have a cycle with a positive total: {cycle}")
        self.cycle = cycle


class ParseError(RetimeError):
    """A text that no plan has; `line` is the index of the first wrong line."""

    def __init__(self, line):
        RetimeError.__init__(self, f"no plan has this text, up to and including line {line}")
        self.line = line


class CannotKeep(RetimeError):
    """Tasks that cannot all keep their times; `pair` is a pair of nodes that conflict."""

    def __init__(self, pair):
        RetimeError.__init__(self, f"two nodes that should keep their times conflict: {pair}")
        self.pair = pair


class NoRepair(RetimeError):
    """A plan without a repair; `pair` is a pair of firm nodes that conflict."""

    def __init__(self, pair):
        RetimeError.__init__(self, f"two firm nodes conflict: {pair}")
        self.pair = pair


class InvalidEdit(RetimeError):
    """Edits that a plan cannot take; `index` is the position of the first wrong one."""

    def __init__(self, index):
        RetimeError.__init__(self, f"the plan cannot take the edit at position {index}")
        self.index = index


class InvalidPlan(RetimeError):
    """Arguments that do not form a plan."""


class UnknownName(RetimeError):
    """A name that does not stand for anything here."""


class InvalidKept(RetimeError):
    """An argument that is not a list or tuple of tasks as it is needed here."""


class InvalidPrices(RetimeError):
    """An argument that is not a dict of prices, or an amount that is no price."""


class UnknownVersion(RetimeError):
    """An argument that is not a version of the history."""


class InvalidName(RetimeError):
    """An argument that is not a name."""


class DuplicateName(RetimeError):
    """A name that is taken already."""


class UnknownMark(RetimeError):
    """A label that no mark has."""


class InvalidCommand(RetimeError):
    """An item of a batch that is not a command, or a batch that is not a list."""


class InvalidLine(RetimeError):
    """An argument that is not a line of the shell."""
