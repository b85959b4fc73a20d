"""Makes programs of which runs reach most nodes, and in which values come and go, always the same ones."""

import random

import makers

from loancheck.graphs import graph
from loancheck.rules import rule_fault

HEADS = (
    ("keep", (("a", "own"), ("b", "own")), "own"),
    ("both", (("a", "mut"), ("b", "mut")), "mut"),
    ("one", (("a", "ref"), ("b", "ref"), ("c", "own")), "ref"),
    ("use", (("a", "own"), ("b", "mut")), None),
    ("main", (), None),
)
WORDS = ("let", "let", "let", "set", "set", "call", "read", "write", "drop", "if", "if", "if", "if", "loop")


class LiveMaker(makers.StrictMaker):
    def statement(self, depth):
        word = self.random.choice(WORDS)
        if word == "let" and self.many < 8:
            return self.let()
        if word == "set" and self.scope:
            name, kind = self.random.choice(self.scope)
            expression = self.expression(kind)
            if expression is not None:
                return ("set", name, expression)
        if word == "call":
            return self.call(list(self.results)) or self.some_use()
        if word == "if" and depth:
            return ("if", self.inner(depth - 1), self.inner(depth - 1) if self.random.randrange(3) == 0 else None)
        if word == "loop" and depth:
            return self.loop(depth)
        return self.use(word) if word in ("read", "write", "drop") else self.some_use()

    def some_use(self):
        return self.use(self.random.choice(("read", "write")))

    def loop(self, depth):
        """A loop that some round leaves."""
        before = len(self.scope)
        block = list(self.block(depth - 1, 3))
        last = ("return", None) if self.result is None and self.random.randrange(4) == 0 else ("break",)
        block.insert(self.random.randrange(len(block) + 1), ("if", (last,), None))
        del self.scope[before:]
        return ("loop", tuple(block))


def live_program(chance):
    heads = list(HEADS)
    chance.shuffle(heads)
    heads = heads[:chance.randrange(2, 6)]
    return tuple(head + (LiveMaker(chance, head, heads, 7, ("if", (), None)).body(),) for head in heads)


def live_programs(seed, many, most=40):
    """Many programs that keep the rules, none of whose graphs has more than so many nodes."""
    chance = random.Random(seed)
    found = []
    while len(found) < many:
        program = live_program(chance)
        if rule_fault(program) is None and max(len(graph(program, number)) for number in range(len(program))) <= most:
            found.append(program)
    return found


def mixed_programs(seed, many):
    """Many programs of all kinds that keep the rules."""
    chance = random.Random(seed)
    found = []
    while len(found) < many:
        program = chance.choice((makers.small_program, makers.flow_program, live_program, live_program))(chance)
        if rule_fault(program) is None:
            found.append(program)
    return found
