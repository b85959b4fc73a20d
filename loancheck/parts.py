"""What a function consists of, as all that follows its runs needs it."""

from loancheck.graphs import graph, places
from loancheck.kinds import variable_kinds


class Parts:
    """One function of a program: its head, its nodes, its places and its loans.

    The lists operations and leads tell for each node its operation and its followers; kinds tells the kinds of
    the variables by their names; borrows tells for each node that makes a loan the pair (source, mode).
    """

    def __init__(self, program, function):
        self.name = program[function][0]
        self.parameters = program[function][1]
        self.result = program[function][2]
        self.kinds = variable_kinds(program, function)
        self.places = places(program, function)
        self.operations = []
        self.leads = []
        self.borrows = {}
        for node, (operation, leads) in enumerate(graph(program, function)):
            self.operations.append(operation)
            self.leads.append(leads)
            if operation[0] == "borrow":
                self.borrows[node] = (operation[2], operation[3])

    def loans_of(self, source):
        """The loans of a place (s1)."""
        return tuple([("node", node) for node, (place, mode) in self.borrows.items() if place == source])
