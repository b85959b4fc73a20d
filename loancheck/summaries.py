"""The outcomes and summaries of functions (m1, m2)."""

from loancheck.effects import NO_PARAMETER, pairs_behind
from loancheck.flows import detached_seeds, effects_of, first_seeds, reached_nodes, spread
from loancheck.parts import Parts


def outcomes(program):
    """For the name of each function the tuple of its outcomes, numbers ascending, then "none"."""
    functions = {function[0]: Parts(program, number) for number, function in enumerate(program)}
    found = {name: () for name in functions}
    # Outcomes of one function let runs of others go on; with none at the beginning the least ones are found.
    waiting = list(found)
    while waiting:
        name = waiting.pop()
        told = outcomes_by(functions[name], found)
        if told != found[name]:
            found[name] = told
            waiting.extend([caller for caller in callers_of(functions, name) if caller not in waiting])
    return found


def callers_of(functions, name):
    """The names of the functions that call one."""
    found = []
    for caller, parts in functions.items():
        if any([operation[:2] == ("call", name) for operation in parts.operations]):
            found.append(caller)
    return found


def summary(program, function):
    """(returns, flows, detached) of a function, told by its number."""
    told = outcomes(program)[program[function][0]]
    flows = tuple([outcome for outcome in told if outcome != "none"])
    return (told != (), flows, "none" in told)


def outcomes_by(parts, known):
    """The outcomes of a function if the functions that it calls have those that are known."""
    effects = effects_of(parts, known)
    seeds = first_seeds(parts) + detached_seeds(parts, effects, reached_nodes(parts, known))
    ahead = spread(parts, effects, seeds, pairs_behind)
    numbers = []
    others = ()
    for node, operation in enumerate(parts.operations):
        if operation[0] == "exit":
            numbers.extend([loan[1] for place, loan in ahead[node] if place == "#r" and loan[0] == "param"])
            if ("#r", NO_PARAMETER) in ahead[node]:
                others = ("none",)
    return (*sorted(set(numbers)), *others)
