"""The errors that the program raises (c12)."""


class LoanError(ValueError):
    """The base of all other errors."""


class BadText(LoanError):
    """A text that is no program: the number of a token, from 1 (0 for the text as a whole), and a reason."""

    def __init__(self, token, reason):
        LoanError.__init__(self, f"token {token}: {reason}")
        self.token = token
        self.reason = reason


class BadRule(LoanError):
    """A program that breaks a rule: the numbers of a function and of a statement (or None), and a reason."""

    def __init__(self, function, statement, reason):
        LoanError.__init__(self, f"function {function}, statement {statement}: {reason}")
        self.function = function
        self.statement = statement
        self.reason = reason


class BadRun(LoanError):
    """A run that is not possible: the number of its first step that is not."""

    def __init__(self, step):
        LoanError.__init__(self, f"step {step} is not possible")
        self.step = step


class BadPaper(LoanError):
    """A paper that is not right: the pair (function, node) at which it fails first."""

    def __init__(self, node):
        LoanError.__init__(self, f"the paper is not right at {node}")
        self.node = node


class BadEdit(LoanError):
    """An edit that a workspace refuses."""

    def __init__(self, reason):
        LoanError.__init__(self, f"the edit is refused: {reason}")
        self.reason = reason


class BadJournal(LoanError):
    """A text that is no journal: the number of its first line, from 1, that is none or is refused."""

    def __init__(self, place):
        LoanError.__init__(self, f"line {place} of the journal is refused")
        self.place = place


class BadArgument(LoanError):
    """An argument that names what there is not."""

    def __init__(self, reason):
        LoanError.__init__(self, f"bad argument: {reason}")
        self.reason = reason
