"""The first of the shortest runs that commit a problem (r1).

A hunt goes along the runs of a function and keeps a mark of what has happened ahead of a node: it tells with which
mark runs begin, which marks there may be behind a node, and at which nodes, with which marks, a run has committed
the problem. Several marks may stand for the same run.
"""

from loancheck.effects import effect_at, pairs_behind, put_by, touched_by, used_by, values_behind
from loancheck.flows import outcomes_at
from loancheck.parts import Parts
from loancheck.summaries import outcomes


def shortest(program, problem):
    """The run, for a problem of a program."""
    names = [function[0] for function in program]
    parts = Parts(program, names.index(problem[0]))
    if problem[2] == "no value":
        hunt = ValueHunt(parts, problem)
    else:
        hunt = ConflictHunt(parts, problem)
    return Search(parts, outcomes(program), hunt).first_run()


class ValueHunt:
    """Looks for a node that uses a variable without a value: a mark is (variable, whether it has a value)."""

    def __init__(self, parts, problem):
        self.node = problem[1]
        self.variable = problem[3]
        self.first = (self.variable, self.variable in [name for name, kind in parts.parameters])

    def marks_behind(self, node, effect, mark):
        return values_behind(effect, mark)

    def is_over(self, node, mark):
        return node == self.node and mark == (self.variable, False)


class ConflictHunt:
    """Looks for the later use of a place that holds a loan at a node that is in conflict with it.

    The marks are: ("ahead", None); ("holds", place), when the place holds the loan; and ("waits", place), when it
    held it at the node of the problem and is to be used.
    """

    def __init__(self, parts, problem):
        self.parts = parts
        self.node = problem[1]
        self.maker = problem[4]
        self.first = ("ahead", None)

    def marks_behind(self, node, effect, mark):
        word, place = mark
        operation = self.parts.operations[node]
        if word == "ahead" and node == self.maker:
            return [mark, ("holds", put_by(operation))]
        if word == "holds":
            return self.marks_behind_holder(node, effect, place)
        if word == "waits" and place in touched_by(operation):
            return []
        return [mark]

    def marks_behind_holder(self, node, effect, place):
        pairs = pairs_behind(effect, (place, ("node", self.maker)))
        found = [("holds", other) for other, loan in pairs]
        if node == self.node and place != put_by(self.parts.operations[node]):
            found.append(("waits", place))
        return found

    def is_over(self, node, mark):
        return mark[0] == "waits" and mark[1] in used_by(self.parts.operations[node], self.parts.result)


class Search:
    """Looks for the first of the shortest runs with which a hunt is over: known tells the outcomes of all functions."""

    def __init__(self, parts, known, hunt):
        self.parts = parts
        self.hunt = hunt
        self.ways = []
        for node in range(len(parts.operations)):
            told = outcomes_at(parts, known, node)
            self.ways.append([(outcome, effect_at(parts, node, outcome)) for outcome in told])

    def first_run(self):
        needed = self.steps_needed()
        node = 0
        marks = [self.hunt.first]
        run = []
        for left in reversed(range(needed[(node, self.hunt.first)])):
            outcome, follower, marks = self.first_step(node, marks, needed, left)
            run.append((node, outcome))
            node = follower
        return (*run, (node, None))

    def first_step(self, node, marks, needed, left):
        """(outcome, follower, marks there): the first step behind which so many more steps are needed."""
        for outcome, effect in self.ways[node]:
            behind = [other for mark in marks for other in self.hunt.marks_behind(node, effect, mark)]
            for follower in sorted(self.parts.leads[node]):
                found = {mark: True for mark in behind if needed.get((follower, mark)) == left}
                if found:
                    return (outcome, follower, list(found))
        return None

    def steps_needed(self):
        """For each pair (node, mark) from which the hunt comes to its end: how many steps behind it are needed."""
        sources = self.sources()
        needed = {}
        steps = 0
        fresh = [state for state in sources if self.hunt.is_over(state[0], state[1])]
        while fresh:
            ahead = []
            for state in fresh:
                if state not in needed:
                    needed[state] = steps
                    ahead.extend(sources[state])
            fresh = ahead
            steps += 1
        return needed

    def sources(self):
        """For each pair (node, mark) to which runs come the list of those from which they come there."""
        begin = (0, self.hunt.first)
        found = {begin: []}
        waiting = [begin]
        while waiting:
            state = waiting.pop()
            for other in self.states_behind(state[0], state[1]):
                if other not in found:
                    found[other] = []
                    waiting.append(other)
                found[other].append(state)
        return found

    def states_behind(self, node, mark):
        found = []
        for _, effect in self.ways[node]:
            for other in self.hunt.marks_behind(node, effect, mark):
                found.extend([(follower, other) for follower in self.parts.leads[node]])
        return found
