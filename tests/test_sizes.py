"""c2: programs as great as they may be are answered in seconds."""

import random
import time
import unittest

import oracle

from loancheck.graphs import graph
from loancheck.reading import parse_program
from loancheck.rules import variables
from loancheck.runs import all_runs, replay
from loancheck.states import accessed_at, after, cleared_at, first_state, put_at, used_at
from loancheck.summaries import outcomes, summary
from loancheck.writing import program_text

SECONDS = 10
ALL = (0, 1, 2, "none")


def great_function(name, other, begin):
    """A function of 8 variables and nearly 60 nodes, which calls another one in loops and branches."""
    return (
        f"fn {name}(x:ref,y:ref,z:ref)->ref{{{begin}let o=new;let r={other}(y,z,x);let s=r;let t=s;let u=ref o;"
        f"loop{{if{{r={other}(s,t,y);}}else{{s={other}(r,z,u);}}if{{t={other}(u,r,s);read t;}}if{{break;}}"
        f"if{{u=t;}}if{{t=z;}}}}return t;}}"
    )


def great_program():
    """Five such functions: each calls the next one, and only the last one comes back without that."""
    heads = [great_function(name, other, "") for name, other in ("ab", "bc", "cd", "de")]
    return "".join(heads) + great_function("e", "a", "if{read x;read y;read z;read y;read x;return z;}")


# Each call adds but one outcome to those that are known, and it takes all functions to bring it to the next one.
SLOW = "".join(
    f"fn {name}(x:ref,y:ref,z:ref)->ref{{let r={other}(x,y,z);let s=r;let t=s;let u=t;loop{{if{{break;}}r=s;s=t;t=u;}}return u;}}"
    for name, other in ("ab", "bc", "cd", "de")
) + "fn e(x:ref,y:ref,z:ref)->ref{if{return x;}let r=a(y,z,x);let s=r;let t=s;let u=t;return u;}"


class Sizes(unittest.TestCase):
    def setUp(self):
        self.begun = time.perf_counter()

    def tearDown(self):
        self.assertLess(time.perf_counter() - self.begun, SECONDS)

    def test_the_program_is_a_great_one(self):
        text = great_program()
        self.assertLessEqual(len(text), 1500)
        program = parse_program(text)
        self.assertEqual([len(graph(program, number)) for number in range(5)], [49, 49, 49, 49, 60])
        self.assertEqual([len(variables(program, number)) for number in range(5)], [8] * 5)

    def test_outcomes_and_summaries(self):
        program = parse_program(great_program())
        self.assertEqual(outcomes(program), dict.fromkeys("abcde", ALL))
        for number in range(5):
            self.assertEqual(summary(program, number), (True, (0, 1, 2), True))

    def test_outcomes_that_are_found_one_by_one(self):
        program = parse_program(SLOW)
        self.assertEqual(outcomes(program), dict.fromkeys("abcde", (0, 1, 2)))

    def test_long_runs(self):
        program = parse_program(great_program())
        chance = random.Random(51)
        known = outcomes(program)
        run = self.long_run(chance, oracle.Oracle(program, 4), known)
        self.assertEqual(replay(program, 4, known, run), (False, [], 1, 0, 0, 0))

    def long_run(self, chance, told, known):
        """A run of 5,000 steps: no step is gone that leads to an exit."""
        leaving = {node for node, (operation, _) in enumerate(told.nodes) if operation[:2] in (("copy", "#r"), ("read", "x"))}
        run = []
        node = 0
        while len(run) < 5000:
            outcome, follower = chance.choice([way for way in told.ways(known, node) if way[1] not in leaving])
            run.append((node, outcome))
            node = follower
        return tuple(run) + ((node, None),)

    def test_all_runs(self):
        program = parse_program(great_program())
        known = outcomes(program)
        found = all_runs(program, 4, known, 50)
        self.assertGreater(len(found), 1000)
        self.assertTrue(all(len(run) <= 50 for run in found))
        for run in found[:20]:
            self.assertTrue(replay(program, 4, known, run)[0])
        self.assertEqual(all_runs(program, 4, known, 4), [])

    def test_ways_that_are_too_long_are_not_gone(self):
        # There are four outcomes at each of the calls, but no run has an end within so many steps.
        calls = "g(a);" * 14
        program = parse_program("fn f(a: ref) { " + calls + " } fn g(a: ref) -> ref { return a; }")
        self.assertEqual(len(graph(program, 0)), 44)
        self.assertEqual(all_runs(program, 0, {"g": ALL}, 43), [])
        self.assertEqual(len(all_runs(program, 0, {"g": ("none",)}, 44)), 1)

    def test_ways_to_a_call_that_never_comes_back_are_not_gone(self):
        ifs = "if { read a; }" * 12
        program = parse_program("fn f(a: own) { loop { " + ifs + " if { g(); break; } } } fn g() { loop { } }")
        self.assertEqual(all_runs(program, 0, outcomes(program), 400), [])

    def test_each_node(self):
        program = parse_program(great_program())
        for node in range(60):
            state = first_state(program, 4)
            for outcome in ALL:
                state = after(program, 4, state, node, outcome)
            for ask in (used_at, accessed_at, cleared_at, put_at):
                ask(program, 4, node)

    def test_a_function_of_60_nodes_and_8_variables(self):
        text = (
            "fn f(a: own, b: ref, c: mut) -> mut { let x = new; let y = g(b, ref x); let z = h(mut x, c); let w = z;"
            " loop { if { y = g(y, b); } if { w = mut x; } if { w = h(w, w); } if { read y; break; } write w;"
            " if { x = new; } else { x = a; a = new; } if { z = mut x; read z; } read x; } return w; }"
            " fn g(a: ref, b: ref) -> ref { if { return a; } return b; }"
            " fn h(a: mut, b: mut) -> mut { if { return a; } return b; }"
        )
        program = parse_program(text)
        self.assertLessEqual(len(graph(program, 0)), 60)
        self.assertGreaterEqual(len(graph(program, 0)), 50)
        known = outcomes(program)
        self.assertEqual(known["g"], (0, 1))
        found = all_runs(program, 0, known, 50)
        self.assertGreater(len(found), 100)
        told = oracle.Oracle(program, 0)
        for run in found[::len(found) // 50]:
            self.assertEqual(replay(program, 0, known, run), told.replay(run))

    def test_the_written_form(self):
        program = parse_program(great_program())
        for _ in range(50):
            program_text(program)


if __name__ == "__main__":
    unittest.main()
