"""c2: facts, problems, shortest runs and papers of programs as great as they may be are told in seconds."""

import random
import time
import unittest

import searcher
from paperwork import fault
from test_sizes import SLOW, great_program

from loancheck.check import check, drops, region
from loancheck.errors import BadPaper
from loancheck.facts import facts
from loancheck.graphs import graph
from loancheck.papers import check_paper, make_paper
from loancheck.reading import parse_program
from loancheck.rules import variables
from loancheck.runs import replay
from loancheck.shortest import shortest
from loancheck.summaries import outcomes

SECONDS = 10

# A function of 60 nodes and 8 variables, with loops, branches and calls of functions with several outcomes.
GREAT = (
    "fn f(a: own, b: mut, c: mut) -> mut { let x = new; let r = pick(mut x, b, c); let s = pick(mut x, mut a, mut r);"
    " let t = mut x; let u = ref x; loop { if { r = turn(s, t, r); } else { write r; } if { s = mut r; read s; break; }"
    " if { u = ref a; } if { drop x; x = a; } if { t = pick(r, s, t); continue; } read u; write t; if { a = new; }"
    " loop { if { break; } read x; } } return r; }"
    " fn pick(a: mut, b: mut, c: mut) -> mut { if { return a; } if { return b; } let o = new; let r = mut o;"
    " if { return r; } return c; }"
    " fn turn(a: mut, b: mut, c: mut) -> mut { if { return a; } let r = turn(b, c, a); return r; }"
)
# Many loans that are held in many places.
LOANS = (
    "fn f(a: own, b: own, c: own) { let r = ref a; let s = ref b; let t = ref c; let u = r; loop { "
    + "if { r = ref a; } if { s = ref b; } if { t = ref c; } if { u = s; } if { s = t; } if { t = u; } if { r = u; }"
    + " if { u = r; } if { read u; break; } write a; write b; } }"
)


class Sizes(unittest.TestCase):
    def setUp(self):
        self.begun = time.perf_counter()

    def tearDown(self):
        self.assertLess(time.perf_counter() - self.begun, SECONDS)

    def test_the_programs_are_great_ones(self):
        program = parse_program(GREAT)
        self.assertEqual(len(graph(program, 0)), 60)
        self.assertEqual(len(variables(program, 0)), 8)
        self.assertEqual(outcomes(program), {"f": outcomes(program)["f"], "pick": (0, 1, 2, "none"), "turn": (0, 1, 2)})
        self.assertGreater(len(check(program)), 15)
        self.assertEqual(len(graph(parse_program(LOANS), 0)), 49)

    def test_all_answers(self):
        for text in (GREAT, LOANS, great_program(), SLOW):
            program = parse_program(text)
            found = check(program)
            for number in range(len(program)):
                self.assertEqual(len(facts(program, number)), len(graph(program, number)))
                drops(program, number)
                for node, (operation, _) in enumerate(graph(program, number)):
                    if operation[0] == "borrow":
                        region(program, number, node)
            paper = make_paper(program)
            self.assertEqual(fault(program, paper) is None, found == [])

    def test_all_shortest_runs(self):
        for text in (GREAT, LOANS, great_program()):
            program = parse_program(text)
            names = [head[0] for head in program]
            known = outcomes(program)
            found = check(program)
            self.assertTrue(found)
            for problem in found:
                run = shortest(program, problem)
                self.assertIn(problem, replay(program, names.index(problem[0]), known, run)[1])

    def test_problems_of_a_great_function_are_those_that_long_runs_commit(self):
        program = parse_program(GREAT)
        known = outcomes(program)
        found = check(program)
        chance = random.Random(79)
        told = searcher.oracle.Oracle(program, 0)
        seen = set()
        for _ in range(40):
            run = []
            node = 0
            while told.ways(known, node) and len(run) < 150:
                outcome, follower = chance.choice(told.ways(known, node))
                run.append((node, outcome))
                node = follower
            seen.update(replay(program, 0, known, tuple(run) + ((node, None),))[1])
        self.assertLessEqual(seen, set(found))
        self.assertGreater(len(seen), len(found) // 2)

    def test_a_long_way_to_a_problem(self):
        text = (
            "fn f(a: own, b: own) { let r = ref b; let s = r; let t = r; let u = r; let v = r; let w = r;"
            " loop { read w; write a; w = v; v = u; u = t; t = s; s = r; r = ref a; read b; } }"
        )
        program = parse_program(text)
        maker = [node for node, (operation, _) in enumerate(graph(program, 0)) if operation == ("borrow", "#t", "a", "ref")]
        problem = ("f", 8, "conflict", "a", maker[0])
        self.assertEqual(check(program), [problem])
        # One round to make the loan, and another one up to the use of r in it.
        self.assertEqual([node for node, outcome in shortest(program, problem)], [*range(28), *range(6, 22)])

    def test_papers_that_are_not_right(self):
        program = parse_program(SLOW)
        paper = make_paper(program)
        for function, (told, rows) in enumerate(paper):
            for node in range(len(rows)):
                wrong = rows[:node] + (((), (), ()),) + rows[node + 1:]
                with self.assertRaises(BadPaper):
                    check_paper(program, paper[:function] + ((told, wrong),) + paper[function + 1:])


if __name__ == "__main__":
    unittest.main()
