"""The states of functions (s1), and what their nodes use, access, clear and fill (s3, s4)."""

from loancheck.effects import accessed_by, effect_at, pairs_behind, pairs_in_order, put_by, touched_by, used_by
from loancheck.parts import Parts


def first_state(program, function):
    """The state at the beginning of a function, told by its number."""
    names = []
    pairs = []
    for number, (name, kind) in enumerate(program[function][1]):
        names.append(name)
        if kind != "own":
            pairs.append((name, ("param", number)))
    return (tuple(names), tuple(pairs))


def after(program, function, state, node, outcome):
    """The state behind a node of a state ahead of it."""
    return state_behind(Parts(program, function), state, node, outcome)


def used_at(program, function, node):
    """The places that a node uses, in order."""
    parts = Parts(program, function)
    return used_by(parts.operations[node], parts.result)


def accessed_at(program, function, node):
    """The pair (variable, "read" or "write") that a node accesses, or None."""
    parts = Parts(program, function)
    return accessed_by(parts.operations[node], parts.kinds)


def cleared_at(program, function, node):
    """The places into which a node puts something, or which it clears or whose scope it ends, in order."""
    parts = Parts(program, function)
    touched = touched_by(parts.operations[node])
    return tuple([place for place in parts.places if place in touched])


def put_at(program, function, node):
    """The place into which a node puts something, or None."""
    return put_by(Parts(program, function).operations[node])


def state_behind(parts, state, node, outcome):
    places, holds = state
    effect = effect_at(parts, node, outcome)
    target, _, emptied, _ = effect
    left = []
    for place in parts.places:
        if place == target or (place in places and place not in emptied):
            left.append(place)
    pairs = []
    if node in parts.borrows:
        pairs.append((target, ("node", node)))
    for pair in holds:
        pairs.extend(pairs_behind(effect, pair))
    return (tuple(left), pairs_in_order(parts, pairs))
