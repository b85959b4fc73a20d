"""How runs, and single facts in them, go along the nodes of a function (s2, a2)."""

from loancheck.effects import effect_at, pairs_behind


def outcomes_at(parts, outcomes, node):
    """The outcomes with which runs go on from a node: outcomes tells those of the functions by their names."""
    operation = parts.operations[node]
    if operation[0] == "call":
        return outcomes.get(operation[1], ())
    return (None,)


def reached_nodes(parts, outcomes):
    """For each node whether some run reaches it."""
    found = [False for _ in parts.operations]
    waiting = [0]
    while waiting:
        node = waiting.pop()
        if not found[node]:
            found[node] = True
            if outcomes_at(parts, outcomes, node):
                waiting.extend(parts.leads[node])
    return found


def effects_of(parts, outcomes):
    """For each node the effects that it has, one for each of its outcomes."""
    found = []
    for node in range(len(parts.operations)):
        told = outcomes_at(parts, outcomes, node)
        found.append([effect_at(parts, node, outcome) for outcome in told])
    return found


def spread_pairs(parts, effects, seeds):
    """For each node the pairs (place, loan) ahead of it, in some run, that come from the seeds, as keys of a dict.

    A seed is (node, pair): a pair that is there ahead of a node.
    """
    found = [{} for _ in parts.operations]
    waiting = list(seeds)
    while waiting:
        node, pair = waiting.pop()
        if pair not in found[node]:
            found[node][pair] = True
            for effect in effects[node]:
                for other in pairs_behind(effect, pair):
                    waiting.extend([(follower, other) for follower in parts.leads[node]])
    return found
