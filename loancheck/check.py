"""The problems of programs, the regions of loans, and the drops at ends of owners (k1 to k3)."""

from loancheck.effects import conflicting_makers, used_by
from loancheck.facts import FunctionFacts
from loancheck.parts import Parts
from loancheck.summaries import outcomes


def check(program):
    """The list of the problems of a program."""
    known = outcomes(program)
    found = []
    for number in range(len(program)):
        found.extend(problems_by(program, number, known))
    return found


def region(program, function, node):
    """The nodes ahead of which, in some run, a place that is used later holds the loan that a node makes."""
    told = FunctionFacts(Parts(program, function), outcomes(program))
    found = []
    for at, used in enumerate(told.used):
        if any([loan == ("node", node) and place in used for place, loan in told.held[at]]):
            found.append(at)
    return found


def drops(program, function):
    """For each clear and end of an owner the triple (node, variable, when its value is dropped there)."""
    return drops_told(FunctionFacts(Parts(program, function), outcomes(program)))


def problems_by(program, function, known):
    """The problems of one function, told by its number: known tells the outcomes of all functions."""
    parts = Parts(program, function)
    told = FunctionFacts(parts, known)
    found = []
    for node, operation in enumerate(parts.operations):
        for place in used_by(operation, parts.result):
            if place in parts.kinds and (place, False) in told.valued[node]:
                found.append((parts.name, node, "no value", place, None))
        later = {place: True for follower in parts.leads[node] for place in told.used[follower]}
        makers = conflicting_makers(parts, operation, told.held[node], later)
        for maker in sorted(set(makers)):
            found.append((parts.name, node, "conflict", parts.borrows[maker][0], maker))
    return found


def drops_told(told):
    """The triples of drops of one function, of whose nodes the facts are told."""
    parts = told.parts
    found = []
    for node, operation in enumerate(parts.operations):
        if operation[0] in ("clear", "end") and parts.kinds.get(operation[1]) == "own":
            found.append((node, operation[1], drop_word(told.valued[node], operation[1])))
    return found


def drop_word(valued, variable):
    """When the value of a variable is dropped: valued has the pairs (place, whether it has a value) that are so."""
    if (variable, True) in valued and (variable, False) in valued:
        return "sometimes"
    if (variable, True) in valued:
        return "always"
    if (variable, False) in valued:
        return "never"
    return "unreachable"
