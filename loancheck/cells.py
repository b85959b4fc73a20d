"""Compiles the functions of programs without problems to code on cells (b1, b2)."""

from loancheck.check import drops_told
from loancheck.facts import FunctionFacts
from loancheck.parts import Parts
from loancheck.summaries import outcomes


def make_code(program):
    """For the name of each function its code, a tuple of instructions."""
    known = outcomes(program)
    found = {}
    for number, function in enumerate(program):
        found[function[0]] = Coder(FunctionFacts(Parts(program, number), known)).code()
    return found


class Coder:
    """Writes the code of one function, of whose nodes the facts are told.

    For each node that is a clear or end of an owner, words tells when its value is dropped. In the rows that are
    being written, jumps tell the node to which they go: the beginnings of the blocks are known at the end alone.
    """

    def __init__(self, told):
        self.parts = told.parts
        self.reached = told.reached
        self.words = {node: word for node, variable, word in drops_told(told)}
        self.flagged = {variable: True for node, variable, word in drops_told(told) if word == "sometimes"}
        self.rows = []

    def code(self):
        nodes = [node for node, reached in enumerate(self.reached) if reached]
        starts = {}
        for node, behind in zip(nodes, [*nodes[1:], None]):
            starts[node] = len(self.rows)
            self.add_block(node)
            self.add_way(node, behind)
        return tuple([with_start(row, starts) for row in self.rows])

    def add_way(self, node, behind):
        """Adds the jump at the end of a block, if what is behind it is not the block to which its node leads."""
        leads = self.parts.leads[node]
        if leads and self.reached[leads[0]] and leads[0] != behind:
            self.rows.append(("jump", leads[0]))

    def add_block(self, node):
        operation = self.parts.operations[node]
        word = operation[0]
        if word in ("read", "write"):
            self.rows.append(operation)
        elif word in ("new", "move", "copy", "borrow", "call"):
            self.add_filling(operation)
        elif word == "drop":
            self.add_free(operation[1])
        elif word in ("clear", "end"):
            self.add_end(node, operation[1])
        elif word == "choose" and len(self.parts.leads[node]) == 2:
            self.rows.append(("choose", self.parts.leads[node][1]))
        elif word == "exit":
            self.rows.append(("leave",))

    def add_filling(self, operation):
        """Adds what puts something into a place, if it has a target, and the flags."""
        word = operation[0]
        target = operation[1]
        if word == "new":
            self.rows.append(("take", target))
        elif word == "borrow":
            self.rows.append(("point", target, operation[2]))
        elif word == "call":
            target = operation[2]
            self.rows.append(operation)
        else:
            self.rows.append(operation)
        if word == "move":
            self.add_flag(operation[2], False)
        self.add_flag(target, True)

    def add_free(self, source):
        self.rows.append(("free", source))
        self.add_flag(source, False)

    def add_end(self, node, source):
        """Adds what a clear or an end does."""
        word = self.words.get(node)
        if word is None:
            self.rows.append(("empty", source))
        elif word == "always":
            self.rows.append(("free", source))
        elif word == "sometimes":
            # The jump goes over itself, and over the two instructions that free the cell and put down the flag.
            self.rows.append(("unless", source, len(self.rows) + 3))
            self.add_free(source)

    def add_flag(self, place, yes):
        if place in self.flagged:
            self.rows.append(("flag", place, yes))


def with_start(row, starts):
    """An instruction that goes to the beginning of a block, where it told its node; others as they are."""
    if row[0] in ("jump", "choose"):
        return (row[0], starts[row[1]])
    return row
