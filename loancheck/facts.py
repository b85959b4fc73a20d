"""What is so at the nodes of functions in some run (a1)."""

from loancheck.effects import NO_PARAMETER, pairs_behind, pairs_in_order, values_behind
from loancheck.flows import (
    detached_seeds, effects_of, first_seeds, later_uses, loan_seeds, reached_nodes, spread, value_seeds,
)
from loancheck.parts import Parts
from loancheck.summaries import outcomes


def facts(program, function):
    """For each node of a function, told by its number: (reached, with value, without value, holds, later)."""
    told = FunctionFacts(Parts(program, function), outcomes(program))
    found = []
    for node, reached in enumerate(told.reached):
        held = [pair for pair in told.held[node] if pair[1] != NO_PARAMETER]
        row = (reached, told.with_value(node), told.without_value(node), told.pairs(held), told.later(node))
        found.append(row)
    return tuple(found)


class FunctionFacts:
    """What is so at the nodes of a function, each item in some run: known tells the outcomes of all functions.

    For each node: reached tells whether some run reaches it; the keys of valued[node] are the pairs (place, whether
    it has a value) that are so ahead of it, those of held[node] the pairs (place, loan), where the loan ("none",)
    stands for holding no parameter, and those of used[node] the places that are used later, from the node on.
    """

    def __init__(self, parts, known):
        effects = effects_of(parts, known)
        reached = reached_nodes(parts, known)
        seeds = first_seeds(parts) + detached_seeds(parts, effects, reached) + loan_seeds(parts, reached)
        self.parts = parts
        self.reached = reached
        self.valued = spread(parts, effects, value_seeds(parts), values_behind)
        self.held = spread(parts, effects, seeds, pairs_behind)
        self.used = later_uses(parts, effects, reached)

    def with_value(self, node):
        return tuple([place for place in self.parts.places if (place, True) in self.valued[node]])

    def without_value(self, node):
        return tuple([place for place in self.parts.places if (place, False) in self.valued[node]])

    def later(self, node):
        return tuple([place for place in self.parts.places if place in self.used[node]])

    def pairs(self, held):
        return pairs_in_order(self.parts, held)
