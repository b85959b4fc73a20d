"""f1: the graph of a function does what its statements say, whatever choices are taken."""

import random
import unittest

import makers
import walker

from loancheck.graphs import graph, places
from loancheck.rules import rule_fault, variables


class Walks(unittest.TestCase):
    def test_statements_and_graphs_do_the_same(self):
        chance = random.Random(4)
        for _ in range(200):
            program = makers.strict_program(chance)
            for function in range(len(program)):
                nodes = graph(program, function)
                kinds = dict(variables(program, function))
                for _ in range(8):
                    choices = [chance.randrange(2) for _ in range(60)]
                    expected = walker.walk_text(program, function, kinds, choices, 50)
                    self.assertEqual(walker.walk_graph(nodes, choices, 50), expected, program[function])

    def test_the_form_of_graphs(self):
        chance = random.Random(5)
        for _ in range(200):
            program = makers.strict_program(chance)
            for function in range(len(program)):
                nodes = graph(program, function)
                for operation, followers in nodes:
                    allowed = {"exit": (0,), "choose": (1, 2)}.get(operation[0], (1,))
                    self.assertIn(len(followers), allowed)
                    self.assertEqual(len(set(followers)), len(followers))
                    self.assertTrue(all(0 <= follower < len(nodes) for follower in followers))
                self.assert_places(nodes, places(program, function))

    def assert_places(self, nodes, known):
        """Each place that a node names is one of the function."""
        for operation, followers in nodes:
            named = operation[1:3] if operation[0] != "call" else (operation[2] or "#t",)
            for place in named:
                self.assertIn(place, known)

    def test_arguments_are_not_changed_and_no_list_stands_within_a_shape(self):
        chance = random.Random(6)
        for _ in range(50):
            program = makers.strict_program(chance)
            before = repr(program)
            rule_fault(program)
            for function in range(len(program)):
                shapes = [graph(program, function), places(program, function), variables(program, function)]
                self.assertEqual(shapes[0], graph(program, function))
                for shape in shapes:
                    self.assert_tuples(shape)
            self.assertEqual(repr(program), before)

    def assert_tuples(self, shape):
        self.assertIn(type(shape), (tuple, str, int, type(None)))
        if isinstance(shape, tuple):
            for part in shape:
                self.assert_tuples(part)


if __name__ == "__main__":
    unittest.main()
