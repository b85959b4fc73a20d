"""How runs, and single facts in them, go along the nodes of a function (s2, a2)."""

from loancheck.effects import NO_PARAMETER, detached_by, effect_at, touched_by, used_by


def outcomes_at(parts, outcomes, node):
    """The outcomes with which runs go on from a node: outcomes tells those of the functions by their names."""
    operation = parts.operations[node]
    if operation[0] == "call":
        return outcomes.get(operation[1], ())
    return (None,)


def reached_nodes(parts, outcomes):
    """For each node whether some run reaches it."""
    found = [False for _ in parts.operations]
    waiting = [0]
    while waiting:
        node = waiting.pop()
        if not found[node]:
            found[node] = True
            if outcomes_at(parts, outcomes, node):
                waiting.extend(parts.leads[node])
    return found


def effects_of(parts, outcomes):
    """For each node the effects that it has, one for each of its outcomes."""
    found = []
    for node in range(len(parts.operations)):
        told = outcomes_at(parts, outcomes, node)
        found.append([effect_at(parts, node, outcome) for outcome in told])
    return found


def spread(parts, effects, seeds, behind):
    """For each node the facts that are so ahead of it, in some run, and come from the seeds, as keys of a dict.

    A seed is (node, fact): a fact that is so ahead of a node. The function behind tells, for an effect and a fact
    ahead of it, the facts that are so behind it.
    """
    found = [{} for _ in parts.operations]
    waiting = list(seeds)
    while waiting:
        node, fact = waiting.pop()
        if fact not in found[node]:
            found[node][fact] = True
            others = {other: True for effect in effects[node] for other in behind(effect, fact)}
            for follower in parts.leads[node]:
                waiting.extend([(follower, other) for other in others if other not in found[follower]])
    return found


def value_seeds(parts):
    """The pairs (place, whether it has a value) at the beginning."""
    names = [name for name, kind in parts.parameters]
    return [(0, (place, place in names)) for place in parts.places]


def first_seeds(parts):
    """What places hold at the beginning: a parameter, or none."""
    loans = {place: NO_PARAMETER for place in parts.places}
    for number, (name, kind) in enumerate(parts.parameters):
        if kind != "own":
            loans[name] = ("param", number)
    return [(0, (place, loan)) for place, loan in loans.items()]


def detached_seeds(parts, effects, reached):
    """The places that hold no parameter behind a node, whatever they held ahead of it."""
    found = []
    for node, leads in enumerate(parts.leads):
        if reached[node]:
            for effect in effects[node]:
                places = detached_by(effect)
                for follower in leads:
                    found.extend([(follower, (place, NO_PARAMETER)) for place in places])
    return found


def loan_seeds(parts, reached):
    """The loans that nodes make, each held by the place into which its node puts the reference."""
    found = []
    for node in parts.borrows:
        if reached[node]:
            pair = (parts.operations[node][1], ("node", node))
            found.extend([(follower, pair) for follower in parts.leads[node]])
    return found


def later_uses(parts, effects, reached):
    """For each node the places that are used later, from it on, in some run (s4), as keys of a dict."""
    sources = [[] for _ in parts.operations]
    found = [{} for _ in parts.operations]
    waiting = []
    for node, operation in enumerate(parts.operations):
        if reached[node]:
            waiting.extend([(node, place) for place in used_by(operation, parts.result)])
            if effects[node]:
                for follower in parts.leads[node]:
                    sources[follower].append(node)
    while waiting:
        node, place = waiting.pop()
        if place not in found[node]:
            found[node][place] = True
            for source in sources[node]:
                if place not in touched_by(parts.operations[source]):
                    waiting.append((source, place))
    return found
