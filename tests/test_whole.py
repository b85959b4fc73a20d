"""What the document promises over the whole program."""

import random
import unittest

import livemaker
import makers
import soundmaker
from paperwork import fault

from loancheck.cells import make_code
from loancheck.check import check, drops, region
from loancheck.errors import BadPaper
from loancheck.facts import facts
from loancheck.graphs import graph
from loancheck.machine import run
from loancheck.papers import check_paper, make_paper
from loancheck.reading import parse_program
from loancheck.rules import rule_fault
from loancheck.runs import replay
from loancheck.shortest import shortest
from loancheck.summaries import outcomes, summary
from loancheck.writing import program_text

NAMES = ("zeta", "alpha", "mid", "q", "beta", "omega")


def all_programs():
    """Programs of all kinds, with problems and without."""
    found = livemaker.live_programs(101, 80) + soundmaker.sound_programs(102, 40)
    chance = random.Random(103)
    while len(found) < 180:
        program = chance.choice((makers.small_program, makers.flow_program))(chance)
        if rule_fault(program) is None:
            found.append(program)
    return found


PROGRAMS = all_programs()


def with_calls(block, names):
    """A block in which functions have other names, as a dict tells them."""
    return tuple(statement_with_calls(statement, names) for statement in block)


def statement_with_calls(statement, names):
    word = statement[0]
    if word in ("let", "set") and statement[2][0] == "call":
        return (word, statement[1], ("call", names[statement[2][1]], statement[2][2]))
    if word == "call":
        return ("call", names[statement[1]], statement[2])
    if word == "if":
        otherwise = None if statement[2] is None else with_calls(statement[2], names)
        return ("if", with_calls(statement[1], names), otherwise)
    if word == "loop":
        return ("loop", with_calls(statement[1], names))
    return statement


def renamed(program, names):
    return tuple((names[name], parameters, result, with_calls(body, names)) for name, parameters, result, body in program)


def renamed_rows(rows, names):
    """Instructions in which functions have other names."""
    return tuple((row[0], names[row[1]], *row[2:]) if row[0] == "call" else row for row in rows)


def all_told(program, names=None):
    """What is told of each function, by its name: names tells under which ones functions are to be told instead."""
    names = names or {head[0]: head[0] for head in program}
    codes = make_code(program)
    known = outcomes(program)
    problems = check(program)
    paper = make_paper(program)
    found = {}
    for number, head in enumerate(program):
        own = [problem for problem in problems if problem[0] == head[0]]
        borrows = [node for node, (operation, _) in enumerate(graph(program, number)) if operation[0] == "borrow"]
        found[names[head[0]]] = (
            known[head[0]], summary(program, number), facts(program, number), drops(program, number),
            [problem[1:] for problem in own], renamed_rows(codes[head[0]], names), paper[number],
            [region(program, number, node) for node in borrows[:2]],
            [shortest(program, problem) for problem in own[:2]],
        )
    return found


class Invariance(unittest.TestCase):
    def test_in_another_order(self):
        chance = random.Random(104)
        for program in PROGRAMS[::2]:
            other = tuple(chance.sample(program, len(program)))
            self.assertEqual(all_told(other), all_told(program), program)

    def test_with_other_names(self):
        chance = random.Random(105)
        for program in PROGRAMS[::2]:
            names = dict(zip([head[0] for head in program], chance.sample(NAMES, len(program))))
            other = renamed(program, names)
            self.assertEqual(all_told(other, {new: old for old, new in names.items()}), all_told(program), program)

    def test_with_a_further_function_that_nobody_calls(self):
        more = parse_program("fn more(a: own, b: mut) -> mut { if { drop a; } read a; let r = more(a, b); return r; }")
        chance = random.Random(106)
        for program in PROGRAMS[1::2]:
            if len(program) < 5:
                at = chance.randrange(len(program) + 1)
                told = all_told(program[:at] + more + program[at:])
                del told["more"]
                self.assertEqual(told, all_told(program))

    def test_read_again_from_the_written_form(self):
        for program in PROGRAMS:
            text = program_text(program)
            if len(text) <= 1500:
                self.assertEqual(parse_program(text), program)


class Reads(unittest.TestCase):
    """A read statement taken out brings no new problem."""

    def test_each_read_of_many_programs(self):
        many = 0
        for program in PROGRAMS:
            before = check(program)
            for number in range(len(program)):
                reads = [node for node, (operation, _) in enumerate(graph(program, number)) if operation[0] == "read"]
                for at, node in enumerate(reads):
                    other = self.without_read(program, number, at)
                    self.assertEqual(len(graph(other, number)), len(graph(program, number)) - 1)
                    for problem in check(other):
                        if problem[0] == program[number][0]:
                            problem = self.moved(problem, node)
                        self.assertIn(problem, before, (program, other))
                    many += 1
        self.assertGreater(many, 300)

    def moved(self, problem, node):
        """A problem as it was told ahead of the change, when there was a node more."""
        name, at, kind, variable, maker = problem
        if maker is not None and maker >= node:
            maker += 1
        return (name, at + (at >= node), kind, variable, maker)

    def without_read(self, program, number, at):
        """The program without one of the read statements of a function: they stand in the order of their nodes."""
        name, parameters, result, body = program[number]
        self.left = at
        return program[:number] + ((name, parameters, result, self.block(body)),) + program[number + 1:]

    def block(self, block):
        found = []
        for statement in block:
            if statement[0] == "read":
                self.left -= 1
                if self.left == -1:
                    continue
            elif statement[0] == "loop":
                statement = ("loop", self.block(statement[1]))
            elif statement[0] == "if":
                first = self.block(statement[1])
                statement = ("if", first, None if statement[2] is None else self.block(statement[2]))
            found.append(statement)
        return tuple(found)


class Together(unittest.TestCase):
    def test_problems_runs_papers_and_machine(self):
        chance = random.Random(107)
        seen = {"with problems": 0, "without": 0}
        for program in PROGRAMS:
            found = check(program)
            known = outcomes(program)
            names = [head[0] for head in program]
            for problem in found:
                told = replay(program, names.index(problem[0]), known, shortest(program, problem))
                self.assertIn(problem, told[1])
            paper = make_paper(program)
            self.assertEqual(fault(program, paper) is None, found == [])
            if found:
                self.assertEqual(fault(program, paper), (names.index(found[0][0]), found[0][1]))
            else:
                codes = make_code(program)
                for head in program:
                    if head[1] == ():
                        for _ in range(10):
                            choices = tuple(chance.randrange(2) for _ in range(30))
                            self.assertNotEqual(run(program, codes, head[0], choices, 1000)[0], "bad")
            seen["with problems" if found else "without"] += 1
        self.assertGreater(min(seen.values()), 40, seen)

    def test_whoever_made_the_paper(self):
        """No paper of one program is taken for another one that has problems."""
        papers = [make_paper(program) for program in PROGRAMS if check(program) == []]
        others = [program for program in PROGRAMS if check(program)]
        for program in others[:60]:
            for paper in papers[:60]:
                with self.assertRaises(BadPaper):
                    check_paper(program, paper)

    def test_nothing_is_changed(self):
        for program in PROGRAMS[::4]:
            text = repr(program)
            told = repr(all_told(program))
            self.assertEqual(repr(all_told(program)), told)
            self.assertEqual(repr(program), text)


if __name__ == "__main__":
    unittest.main()
