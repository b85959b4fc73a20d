"""The outcomes and summaries of functions (m1, m2)."""

from loancheck.flows import effects_of, reached_nodes, spread_pairs
from loancheck.parts import Parts

# It stands, among the loans, for holding no parameter.
NO_PARAMETER = ("none",)


def outcomes(program):
    """For the name of each function the tuple of its outcomes, numbers ascending, then "none"."""
    functions = [Parts(program, number) for number in range(len(program))]
    found = {parts.name: () for parts in functions}
    # Outcomes of one function let runs of others go on; with none at the beginning the least ones are found.
    growing = True
    while growing:
        growing = False
        for parts in functions:
            told = outcomes_by(parts, found)
            if told != found[parts.name]:
                found[parts.name] = told
                growing = True
    return found


def summary(program, function):
    """(returns, flows, detached) of a function, told by its number."""
    told = outcomes(program)[program[function][0]]
    flows = tuple([outcome for outcome in told if outcome != "none"])
    return (told != (), flows, "none" in told)


def outcomes_by(parts, known):
    """The outcomes of a function if the functions that it calls have those that are known."""
    effects = effects_of(parts, known)
    seeds = first_seeds(parts) + detached_seeds(parts, effects, reached_nodes(parts, known))
    ahead = spread_pairs(parts, effects, seeds)
    numbers = []
    others = ()
    for node, operation in enumerate(parts.operations):
        if operation[0] == "exit":
            numbers.extend([loan[1] for place, loan in ahead[node] if place == "#r" and loan[0] == "param"])
            if ("#r", NO_PARAMETER) in ahead[node]:
                others = ("none",)
    return (*sorted(set(numbers)), *others)


def first_seeds(parts):
    """What places hold at the beginning: a parameter, or none."""
    loans = {place: NO_PARAMETER for place in parts.places}
    for number, (name, kind) in enumerate(parts.parameters):
        if kind != "own":
            loans[name] = ("param", number)
    return [(0, (place, loan)) for place, loan in loans.items()]


def detached_seeds(parts, effects, reached):
    """The places that hold no parameter behind a node, whatever they held ahead of it."""
    found = []
    for node, leads in enumerate(parts.leads):
        if reached[node]:
            for target, origin, emptied, _ in effects[node]:
                places = list(emptied)
                if target is not None and origin is None:
                    places.append(target)
                for follower in leads:
                    found.extend([(follower, (place, NO_PARAMETER)) for place in places])
    return found
