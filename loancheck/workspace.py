"""Workspaces, into which functions are put one by one (w1, w2)."""

from loancheck.check import problems_by
from loancheck.errors import BadArgument, BadEdit, BadText
from loancheck.reading import parse_text, split_tokens
from loancheck.rules import rule_fault
from loancheck.summaries import outcomes
from loancheck.writing import program_text


class Workspace:
    """Functions that keep the rules together, and what was done to come to them.

    Put, remove and undo tell whom they affect. The edits behind them, which are called edit_.., do not: they are for
    who edits many times and asks but at the end.
    """

    def __init__(self):
        self.functions = ()
        self.past = []
        self.lines = []
        self.telling = None

    def put(self, text):
        """Puts the function of a text in its place, and tells the names of the functions that this affects."""
        before = self.told()
        self.edit_put(text)
        return self.affected(before)

    def remove(self, name):
        """Removes a function, and tells the names of the functions that this affects."""
        before = self.told()
        self.edit_remove(name)
        return self.affected(before)

    def undo(self):
        """Takes back the last edit that was not undone, and tells the names of the functions that this affects."""
        before = self.told()
        self.edit_undo()
        return self.affected(before)

    def program(self):
        """The functions in their order."""
        return self.functions

    def text(self):
        """The written form of the program."""
        return program_text(self.functions)

    def report(self, name):
        """The list of the problems of a function."""
        told = self.told()
        if name not in told:
            raise BadArgument("function")
        return [(name, *problem) for problem in told[name][1]]

    def journal(self):
        """The text with a line for each edit that was not refused."""
        return "".join([line + "\n" for line in self.lines])

    def edit_put(self, text):
        function = one_function(text)
        line = " ".join(["put", *split_tokens(text)])
        if function[0] in self.names():
            found = [function if other[0] == function[0] else other for other in self.functions]
            self.take(tuple(found), line)
        else:
            self.take((*self.functions, function), line)

    def edit_remove(self, name):
        if name not in self.names():
            raise BadEdit("unknown function")
        self.take(tuple([function for function in self.functions if function[0] != name]), f"remove {name}")

    def edit_undo(self):
        if not self.past:
            raise BadEdit("nothing to undo")
        self.functions, self.telling = self.past.pop()
        self.lines.append("undo")

    def names(self):
        return [function[0] for function in self.functions]

    def take(self, functions, line):
        """Takes these functions instead of those that are there, if they keep the rules."""
        fault = rule_fault(functions)
        if fault is not None:
            raise BadEdit(fault[2])
        self.past.append((self.functions, self.telling))
        self.functions = functions
        self.lines.append(line)
        self.telling = None

    def told(self):
        """For the name of each function the pair (outcomes, problems without its name)."""
        if self.telling is None:
            known = outcomes(self.functions)
            self.telling = {}
            for number, name in enumerate(self.names()):
                problems = problems_by(self.functions, number, known)
                self.telling[name] = (known[name], [problem[1:] for problem in problems])
        return self.telling

    def affected(self, before):
        """The names of the functions of which now, behind an edit, something else is told, in their order."""
        # Outcomes are others exactly if the summary is another one.
        now = self.told()
        return [name for name in self.names() if name not in before or before[name] != now[name]]


def one_function(text):
    """The function of a text that is one."""
    try:
        functions = parse_text(text)
    except BadText:
        raise BadEdit("no function")
    if len(functions) != 1:
        raise BadEdit("no function")
    return functions[0]
