"""s1, s3, s4, c9: nodes of many programs, and states of any places and loans, compared with the words of the document."""

import random
import unittest

import makers
import oracle

from loancheck.graphs import graph
from loancheck.rules import rule_fault
from loancheck.states import accessed_at, after, cleared_at, first_state, put_at, used_at

OUTCOMES = (None, "none", 0, 1, 2)


def any_state(random, order, nodes):
    """A state of any places and pairs, in the order of c9."""
    loans = [("param", number) for number in range(3)] + [("node", number) for number in range(nodes + 2)]
    share = random.choice((0.05, 0.3, 0.9))
    values = tuple(place for place in order if random.randrange(2))
    return values, tuple((place, loan) for place in order for loan in loans if random.random() < share)


class Nodes(unittest.TestCase):
    def programs(self, seed, many):
        chance = random.Random(seed)
        for _ in range(many):
            program = chance.choice((makers.strict_program, makers.small_program, makers.flow_program))(chance)
            if rule_fault(program) is None:
                for function in range(len(program)):
                    yield chance, program, function, oracle.Oracle(program, function)

    def test_after(self):
        for chance, program, function, told in self.programs(31, 20):
            for node in range(len(told.nodes)):
                state = any_state(chance, told.order, len(told.nodes))
                for outcome in OUTCOMES if told.nodes[node][0][0] == "call" else (None,):
                    expected = told.tell_state(told.behind(told.read_state(state), node, outcome))
                    before = repr(state)
                    self.assertEqual(after(program, function, state, node, outcome), expected)
                    self.assertEqual(repr(state), before)

    def test_first_state(self):
        for chance, program, function, told in self.programs(32, 40):
            self.assertEqual(first_state(program, function), told.tell_state(told.start()))

    def test_what_nodes_use_access_clear_and_fill(self):
        for chance, program, function, told in self.programs(33, 60):
            for node in range(len(told.nodes)):
                self.assertEqual(used_at(program, function, node), self.in_order(told, told.used(node)))
                self.assertEqual(accessed_at(program, function, node), told.accessed(node))
                self.assertEqual(cleared_at(program, function, node), self.in_order(told, told.cleared(node)))
                self.assertEqual(put_at(program, function, node), told.put(node))

    def in_order(self, told, places):
        return tuple(place for place in told.order if place in places)

    def test_what_nodes_do_not_clear_stays(self):
        for chance, program, function, told in self.programs(34, 20):
            for node in range(len(graph(program, function))):
                state = any_state(chance, told.order, len(told.nodes))
                outcome = "none" if told.nodes[node][0][0] == "call" else None
                values = after(program, function, state, node, outcome)[0]
                cleared = cleared_at(program, function, node)
                put = put_at(program, function, node)
                for place in told.order:
                    expected = place == put or (place in state[0] and place not in cleared)
                    self.assertEqual(place in values, expected)


if __name__ == "__main__":
    unittest.main()
