"""c2: codes, runs of the machine and workspaces of programs as great as they may be are done in seconds."""

import random
import time
import unittest

from test_check_sizes import GREAT, LOANS
from test_sizes import SLOW, great_program

from loancheck.cells import make_code
from loancheck.check import check
from loancheck.graphs import graph
from loancheck.journal import replay_journal
from loancheck.machine import run
from loancheck.reading import parse_program
from loancheck.workspace import Workspace
from loancheck.writing import function_text

SECONDS = 10

# Values that come and go in a function of 60 nodes, which calls others.
VALUES = (
    "fn main() { let a = new; let b = new; let c = make(); let r = ref a; loop { if { drop a; a = new; } else { read r;"
    " a = b; b = make(); } r = ref a; if { c = swap(c, a); a = new; r = ref a; } if { drop b; b = new; } if { break; }"
    " let d = make(); if { take(d); } let e = new; e = c; c = make(); if { continue; } drop e; } }"
    " fn make() -> own { let x = new; loop { if { return x; } x = new; } return x; }"
    " fn swap(a: own, b: own) -> own { if { return a; } return b; }"
    " fn take(a: own) { if { drop a; } }"
)


class Sizes(unittest.TestCase):
    def setUp(self):
        self.begun = time.perf_counter()

    def tearDown(self):
        self.assertLess(time.perf_counter() - self.begun, SECONDS)

    def test_codes(self):
        for text in (GREAT, LOANS, SLOW, VALUES, great_program()):
            program = parse_program(text)
            for _ in range(10):
                codes = make_code(program)
            self.assertEqual(list(codes), [head[0] for head in program])

    def test_long_runs(self):
        program = parse_program(VALUES)
        self.assertEqual(len(graph(program, 0)), 60)
        self.assertEqual(check(program), [])
        codes = make_code(program)
        chance = random.Random(111)
        seen = {"done": 0, "long": 0}
        for many in (10, 100, 1000, 30000, 30000, 30000):
            choices = tuple(chance.randrange(2) for _ in range(many))
            ended, events = run(program, codes, "main", choices, 100000)
            seen[ended] += 1
            taken = [cell for word, cell in events if word == "take"]
            freed = [cell for word, cell in events if word == "free"]
            self.assertEqual(taken, list(range(len(taken))))
            self.assertEqual(len(set(freed)), len(freed))
            if ended == "done":
                self.assertEqual(sorted(freed), taken)
        self.assertGreater(seen["done"], 1)

    def test_many_frames(self):
        program = parse_program("fn main() { let x = new; let r = ref x; main(); read r; }")
        ended, events = run(program, make_code(program), "main", (), 30000)
        self.assertEqual((ended, len(events)), ("long", 10000))

    def test_a_workspace_with_hundreds_of_edits(self):
        chance = random.Random(112)
        texts = [function_text(function) for function in parse_program(great_program())]
        space = Workspace()
        for name in "abcde":
            space.put(f"fn {name}(x: ref, y: ref, z: ref) -> ref {{ return x; }}")
        for number in range(200):
            if chance.randrange(4) == 0 and number > 5:
                space.undo()
            else:
                space.put(chance.choice(texts))
        self.assertEqual(space.journal().count("\n"), 205)
        for name in "abcde":
            space.report(name)
        again = replay_journal(space.journal())
        self.assertEqual((again.program(), again.journal()), (space.program(), space.journal()))

    def test_many_small_edits_and_undos(self):
        space = Workspace()
        space.put("fn f() { }")
        space.put("fn g() { f(); }")
        for _ in range(300):
            self.assertEqual(space.put("fn f() { loop { } }"), ["f", "g"])
            self.assertEqual(space.put("fn f() { }"), ["f", "g"])
            self.assertEqual(space.undo(), ["f", "g"])
            self.assertEqual(space.undo(), ["f", "g"])
        space.undo()
        space.undo()
        self.assertEqual(space.program(), ())
        text = space.journal()
        self.assertEqual(replay_journal(text).journal(), text)
        for end in range(0, len(text), len(text) // 100):
            replay_journal(text[:end])


if __name__ == "__main__":
    unittest.main()
