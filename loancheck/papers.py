"""Papers, which tell that no run of a program commits a problem (p1 to p4)."""

from loancheck.effects import NO_PARAMETER, conflicting_makers, detached_by, pairs_behind, touched_by, used_by
from loancheck.errors import BadPaper
from loancheck.facts import FunctionFacts
from loancheck.flows import effects_of, first_seeds, value_seeds
from loancheck.parts import Parts
from loancheck.summaries import outcomes


def make_paper(program):
    """The paper that tells just what is so in some run."""
    known = outcomes(program)
    found = []
    for number in range(len(program)):
        told = FunctionFacts(Parts(program, number), known)
        rows = [made_row(told, node) for node in range(len(told.reached))]
        found.append((known[told.parts.name], tuple(rows)))
    return tuple(found)


def check_paper(program, paper):
    """Refuses a paper that is not right."""
    functions = [Parts(program, number) for number in range(len(program))]
    refuse_wrong_lengths(functions, paper)
    told = {parts.name: paper[number][0] for number, parts in enumerate(functions)}
    for number, parts in enumerate(functions):
        look = PaperLook(parts, told, paper[number][1])
        for node in range(len(parts.operations)):
            if look.fails_at(node):
                raise BadPaper((number, node))


def made_row(told, node):
    if not told.reached[node]:
        return None
    return (told.without_value(node), told.pairs(told.held[node]), told.later(node))


def refuse_wrong_lengths(functions, paper):
    for number, parts in enumerate(functions):
        if number >= len(paper) or len(paper[number][1]) != len(parts.operations):
            raise BadPaper((number, None))
    if len(paper) > len(functions):
        raise BadPaper((len(functions), None))


class PaperLook:
    """Looks at what a paper tells of one function: told has, for each name of a function, the outcomes by the paper.

    For each node rows has None or (lacks, holds, later), each as the keys of a dict.
    """

    def __init__(self, parts, told, rows):
        self.parts = parts
        self.outcomes = told[parts.name]
        self.effects = effects_of(parts, told)
        self.rows = []
        for row in rows:
            if row is None:
                self.rows.append(None)
            else:
                self.rows.append(tuple([{item: True for item in items} for items in row]))

    def fails_at(self, node):
        """Whether one of the five conditions of p2 fails at a node."""
        if node == 0 and self.begins_wrong():
            return True
        if self.rows[node] is None:
            return False
        return self.goes_on_wrong(node) or self.ends_wrong(node) or self.tells_no_use(node) or self.has_problem(node)

    def begins_wrong(self):
        if self.rows[0] is None:
            return True
        lacks = [place for _, (place, valued) in value_seeds(self.parts) if not valued]
        return self.leaves_out(0, lacks, [pair for _, pair in first_seeds(self.parts)])

    def leaves_out(self, node, lacks, pairs):
        """Whether a node has no row, or places or pairs that are so ahead of it are not in it."""
        if self.rows[node] is None:
            return True
        told_lacks, told_pairs, _ = self.rows[node]
        return not (all([place in told_lacks for place in lacks]) and all([pair in told_pairs for pair in pairs]))

    def goes_on_wrong(self, node):
        for effect in self.effects[node]:
            lacks = self.lacks_behind(node, effect)
            pairs = self.holds_behind(node, effect)
            if any([self.leaves_out(follower, lacks, pairs) for follower in self.parts.leads[node]]):
                return True
        return False

    def lacks_behind(self, node, effect):
        target, _, emptied, _ = effect
        return [place for place in (*self.rows[node][0], *emptied) if place != target]

    def holds_behind(self, node, effect):
        found = [(place, NO_PARAMETER) for place in detached_by(effect)]
        if node in self.parts.borrows:
            found.append((effect[0], ("node", node)))
        for pair in self.rows[node][1]:
            found.extend(pairs_behind(effect, pair))
        return found

    def ends_wrong(self, node):
        """Whether a node is an exit, and the outcomes leave out one with which the function ends there."""
        if self.parts.operations[node][0] != "exit":
            return False
        for place, loan in self.rows[node][1]:
            if place == "#r" and loan == NO_PARAMETER and "none" not in self.outcomes:
                return True
            if place == "#r" and loan[0] == "param" and loan[1] not in self.outcomes:
                return True
        return False

    def tells_no_use(self, node):
        """Whether the row of a node leaves out a place that may be used later."""
        operation = self.parts.operations[node]
        told = self.rows[node][2]
        if any([place not in told for place in used_by(operation, self.parts.result)]):
            return True
        touched = touched_by(operation)
        return any([place not in told and place not in touched for place in self.later_behind(node)])

    def has_problem(self, node):
        operation = self.parts.operations[node]
        lacks, holds, _ = self.rows[node]
        for place in used_by(operation, self.parts.result):
            if place in self.parts.kinds and place in lacks:
                return True
        return conflicting_makers(self.parts, operation, holds, self.later_behind(node)) != []

    def later_behind(self, node):
        """The places that may be used later from a follower on: a call without outcomes has no followers here."""
        if not self.effects[node]:
            return {}
        rows = [self.rows[follower] for follower in self.parts.leads[node]]
        return {place: True for row in rows if row is not None for place in row[2]}
