"""b1 to b4: codes of many programs without problems, run with many choices."""

import random
import unittest

import cellwalker
import livemaker
import oracle
import soundmaker

from loancheck.cells import make_code
from loancheck.check import check, drops
from loancheck.graphs import graph
from loancheck.machine import run
from loancheck.runs import all_runs
from loancheck.rules import rule_fault
from loancheck.summaries import outcomes

PROGRAMS = soundmaker.sound_programs(81, 120)


def some_choices(chance):
    return tuple(chance.randrange(2) for _ in range(chance.randrange(40)))


def first_functions(program):
    return [head for head in program if head[1] == ()]


class Sound(unittest.TestCase):
    def test_the_programs_have_all_kinds_of_drops(self):
        seen = {"always": 0, "never": 0, "sometimes": 0, "unreachable": 0}
        for program in PROGRAMS:
            self.assertIsNone(rule_fault(program))
            self.assertEqual(check(program), [])
            for number in range(len(program)):
                for node, variable, word in drops(program, number):
                    seen[word] += 1
        self.assertGreater(min(seen.values()), 100, seen)

    def test_never_bad_and_each_cell_is_freed_once(self):
        chance = random.Random(82)
        seen = {"done": 0, "long": 0, "handed back": 0}
        for program in PROGRAMS:
            codes = make_code(program)
            for head in first_functions(program):
                for _ in range(25):
                    ended, events = run(program, codes, head[0], some_choices(chance), 2000)
                    self.assertIn(ended, ("done", "long"), program)
                    seen[ended] += 1
                    left = self.assert_cells(events)
                    if ended == "done":
                        self.assertEqual(len(left), head[2] == "own", program)
                        seen["handed back"] += len(left)
        self.assertGreater(min(seen.values()), 50, seen)

    def assert_cells(self, events):
        """Looks at each event; tells the cells that are left."""
        taken = []
        left = set()
        for word, cell in events:
            if word == "take":
                self.assertEqual(cell, len(taken))
                taken.append(cell)
                left.add(cell)
            else:
                self.assertIn(word, ("read", "write", "free"))
                self.assertIn(cell, left)
                if word == "free":
                    left.remove(cell)
        return left

    def test_fewer_instructions_make_a_beginning_of_the_same_events(self):
        chance = random.Random(83)
        for program in PROGRAMS[:40]:
            codes = make_code(program)
            for head in first_functions(program):
                choices = some_choices(chance)
                whole = run(program, codes, head[0], choices, 300)
                done = whole[0] == "done"
                before = ()
                for most in [*range(0, 60), 100, 200, 299]:
                    ended, events = run(program, codes, head[0], choices, most)
                    self.assertEqual(events[:len(before)], before)
                    self.assertEqual(events, whole[1][:len(events)])
                    before = events
                    if ended == "done":
                        self.assertTrue(done)
                        self.assertEqual(events, whole[1])

    def test_what_the_graphs_do_with_cells(self):
        """The events are those of a walk along the graphs, which knows nothing of codes."""
        chance = random.Random(84)
        many = 0
        for program in PROGRAMS:
            codes = make_code(program)
            for head in first_functions(program):
                for _ in range(25):
                    choices = some_choices(chance)
                    walker = cellwalker.CellWalker(program, choices)
                    ended, back = walker.walk(head[0], 1500)
                    found = run(program, codes, head[0], choices, 4000)
                    if ended == "done":
                        self.assertEqual(found, ("done", tuple(walker.events)), (program, choices))
                        many += len(walker.events) > 5
                        if head[2] == "own":
                            self.assertEqual(self.assert_cells(found[1]), {back})
                    else:
                        shorter = min(len(found[1]), len(walker.events))
                        self.assertEqual(found[0], "long")
                        self.assertEqual(found[1][:shorter], tuple(walker.events[:shorter]))
        self.assertGreater(many, 200)

    def test_runs_of_functions_without_calls(self):
        """Choices that follow a run lead to its events."""
        many = 0
        for program in PROGRAMS:
            for number, head in enumerate(program):
                calls = [operation for operation, _ in graph(program, number) if operation[0] == "call"]
                if head[1] == () and not calls:
                    codes = make_code(program)
                    for steps in all_runs(program, number, outcomes(program), 40)[:60]:
                        choices = self.choices_of(program, number, steps)
                        walker = cellwalker.CellWalker(program, choices)
                        self.assertEqual(walker.walk(head[0], len(steps))[0], "done")
                        found = run(program, codes, head[0], choices, 1000)
                        self.assertEqual(found, ("done", tuple(walker.events)))
                        self.assertEqual(len([word for word, _ in found[1] if word == "take"]), self.made(program, number, steps))
                        many += 1
        self.assertGreater(many, 300)

    def choices_of(self, program, number, steps):
        """The choices that follow a run."""
        nodes = graph(program, number)
        found = []
        for (node, _), (follower, _) in zip(steps, steps[1:]):
            operation, followers = nodes[node]
            if operation == ("choose",) and len(followers) == 2:
                found.append(followers.index(follower))
        return tuple(found)

    def made(self, program, number, steps):
        return oracle.Oracle(program, number).numbers(steps)[0]


class Codes(unittest.TestCase):
    """b2 of all kinds of programs: each code is what the rules say of its nodes, block by block."""

    def test_blocks(self):
        programs = [program for program in livemaker.live_programs(85, 300) if check(program) == []] + PROGRAMS
        jumps = 0
        for program in programs:
            codes = make_code(program)
            for number, head in enumerate(program):
                blocks, starts = self.blocks(program, number)
                code = tuple(
                    (row[0], starts[row[1]]) if row[0] in ("jump", "choose") else row for _, block in blocks for row in block
                )
                jumps += sum(row[0] == "jump" for row in code)
                self.assertEqual(codes[head[0]], code, head)
        self.assertGreater(jumps, 300)

    def blocks(self, program, number):
        """The pairs (node, instructions) of the blocks, and the number at which each of them begins."""
        told = oracle.Oracle(program, number)
        reached = self.reached(told, outcomes(program))
        words = {node: word for node, variable, word in drops(program, number)}
        self.flagged = {variable for node, variable, word in drops(program, number) if word == "sometimes"}
        blocks = []
        starts = {}
        many = 0
        for at, node in enumerate(reached):
            starts[node] = many
            block = self.block(told.nodes[node], told.kinds, words.get(node), many)
            first = told.nodes[node][1][:1]
            if first and first[0] in reached and reached[at + 1:at + 2] != [first[0]]:
                block.append(("jump", first[0]))
            blocks.append((node, block))
            many += len(block)
        return blocks, starts

    def reached(self, told, known):
        found = {0}
        waiting = [0]
        while waiting:
            for outcome, follower in told.ways(known, waiting.pop()):
                if follower not in found:
                    found.add(follower)
                    waiting.append(follower)
        return sorted(found)

    def flag(self, place, yes):
        return [("flag", place, yes)] if place in self.flagged else []

    def block(self, node, kinds, word, start):
        match node:
            case (("new", target), _):
                return [("take", target)] + self.flag(target, True)
            case (("move", target, source), _):
                return [node[0]] + self.flag(source, False) + self.flag(target, True)
            case (("copy", target, source), _):
                return [node[0]] + self.flag(target, True)
            case (("borrow", target, source, _), _):
                return [("point", target, source)] + self.flag(target, True)
            case (("read" | "write", _), _):
                return [node[0]]
            case (("drop", source), _):
                return [("free", source)] + self.flag(source, False)
            case (("clear" | "end", source), _):
                if kinds.get(source) != "own":
                    return [("empty", source)]
                free = [("free", source)]
                some = [("unless", source, start + 3), *free, ("flag", source, False)]
                return {"always": free, "never": [], "sometimes": some}[word]
            case (("call", _, target, _), _):
                return [node[0]] + self.flag(target, True)
            case (("choose",), (_, second)):
                return [("choose", second)]
            case (("exit",), _):
                return [("leave",)]
        return []


if __name__ == "__main__":
    unittest.main()
