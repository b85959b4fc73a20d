"""s2, c10: all complete runs with so many steps at most, and their order."""

import unittest

from runners import steps

from loancheck.reading import parse_program
from loancheck.runs import all_runs

PICK = " fn g(a: ref, b: ref) -> ref { if { return a; } return b; }"


class AllRuns(unittest.TestCase):
    def assert_runs(self, text, most, *runs, outcomes=None, function=0):
        expected = [steps(*run) for run in runs]
        self.assertEqual(all_runs(parse_program(text), function, outcomes or {}, most), expected, (text, most))


class Straight(AllRuns):
    def test_a_single_exit(self):
        self.assert_runs("fn f() { }", 0)
        self.assert_runs("fn f() { }", 1, (0,))
        self.assert_runs("fn f() { }", 50, (0,))

    def test_a_line(self):
        text = "fn f() { let x = new; read x; }"
        for most in range(4):
            self.assert_runs(text, most)
        for most in range(4, 8):
            self.assert_runs(text, most, (0, 1, 2, 3))

    def test_a_function_is_told_by_its_number(self):
        text = "fn f() { } fn g(a: own) { } fn h() { let x = new; }"
        self.assert_runs(text, 9, (0, 1), function=1)
        self.assert_runs(text, 9, (0, 1, 2), function=2)

    def test_nodes_to_which_nothing_leads(self):
        self.assert_runs("fn f() { return; let x = new; }", 9, (0,))


class Branches(AllRuns):
    def test_if(self):
        text = "fn f(a: own) { if { drop a; } }"
        self.assert_runs(text, 2)
        self.assert_runs(text, 3, (0, 2, 3))
        self.assert_runs(text, 4, (0, 1, 2, 3), (0, 2, 3))

    def test_else(self):
        self.assert_runs("fn f(a: own) { if { read a; } else { write a; read a; } }", 9,
                         (0, 1, 4, 5), (0, 2, 3, 4, 5))
        self.assert_runs("fn f(a: own) { if { read a; } else { write a; read a; } }", 4, (0, 1, 4, 5))

    def test_both_the_same(self):
        self.assert_runs("fn f() { if { } else { } }", 9, (0, 1))

    def test_several_exits(self):
        self.assert_runs("fn f(a: own) { if { return; } if { return; } }", 9, (0, 1, 2), (0, 3, 4, 5), (0, 3, 6, 7))

    def test_the_order_is_that_of_nodes_and_not_of_followers(self):
        # The first block leads behind the loop, to a greater number than the second one.
        text = "fn f(a: own) { loop { if { break; } else { read a; break; } } }"
        self.assert_runs(text, 9, (0, 1, 2, 3, 4), (0, 1, 3, 4))
        text = "fn f(a: own) { if { } else { read a; } }"
        self.assert_runs(text, 9, (0, 1, 2, 3), (0, 2, 3))

    def test_the_order_is_not_that_of_lengths(self):
        self.assert_runs("fn f(a: own) { if { read a; read a; read a; } else { } }", 9, (0, 1, 2, 3, 4, 5), (0, 4, 5))


class Loops(AllRuns):
    def test_a_loop_without_an_end(self):
        for most in (0, 1, 5, 60):
            self.assert_runs("fn f() { loop { } }", most)
            self.assert_runs("fn f() { loop { if { } else { continue; } } }", most)

    def test_a_loop_that_can_be_left(self):
        text = "fn f() { loop { if { break; } } }"
        self.assert_runs(text, 2)
        self.assert_runs(text, 3, (0, 1, 2))
        self.assert_runs(text, 4, (0, 1, 2))
        self.assert_runs(text, 5, (0, 1, 0, 1, 2), (0, 1, 2))
        self.assert_runs(text, 7, (0, 1, 0, 1, 0, 1, 2), (0, 1, 0, 1, 2), (0, 1, 2))

    def test_many_rounds(self):
        found = all_runs(parse_program("fn f() { loop { if { break; } } }"), 0, {}, 1401)
        self.assertEqual(len(found), 700)
        self.assertEqual([len(run) for run in found], [2 * rounds + 1 for rounds in range(700, 0, -1)])

    def test_ways_that_come_to_no_end_are_not_gone(self):
        # There are many ways to go round in the second loop, and only one to the exit.
        text = "fn f(a: own) { if { return; } loop { if { read a; } if { read a; } if { read a; } if { read a; } } }"
        self.assert_runs(text, 400, (0, 1, 2))

    def test_loops_in_loops(self):
        text = "fn f() { loop { loop { if { break; } } if { break; } } }"
        self.assert_runs(text, 7, (0, 1, 2, 1, 2, 3, 4), (0, 1, 2, 3, 4))


class Calls(AllRuns):
    def test_each_outcome_numbers_first(self):
        text = "fn f(a: ref) { g(a, a); }" + PICK
        self.assert_runs(text, 6, *[(0, 1, (2, outcome), 3, 4, 5) for outcome in (0, 1, "none")],
                         outcomes={"g": (0, 1, "none")})
        self.assert_runs(text, 6, (0, 1, (2, 1), 3, 4, 5), outcomes={"g": (1,)})
        self.assert_runs(text, 5, outcomes={"g": (0, 1, "none")})

    def test_a_function_without_outcomes(self):
        self.assert_runs("fn f(a: ref) { g(a, a); }" + PICK, 60, outcomes={"g": ()})
        self.assert_runs("fn f(a: ref) { if { g(a, a); } }" + PICK, 60, (0, 5, 6), outcomes={"g": ()})

    def test_a_call_of_itself(self):
        text = "fn f() { if { f(); } }"
        self.assert_runs(text, 9, (0, (1, "none"), 2), (0, 2), outcomes={"f": ("none",)})
        self.assert_runs(text, 9, (0, 2), outcomes={"f": ()})

    def test_nodes_ahead_of_outcomes(self):
        text = "fn f(a: ref) { if { g(a, a); } g(a, a); }" + PICK
        runs = []
        for first in (0, "none"):
            runs += [(0, 1, 2, (3, first), 4, 5, 6, (7, second), 8, 9, 10) for second in (0, "none")]
        runs += [(0, 5, 6, (7, second), 8, 9, 10) for second in (0, "none")]
        self.assert_runs(text, 20, *runs, outcomes={"g": (0, "none")})
        self.assert_runs(text, 10, *runs[4:], outcomes={"g": (0, "none")})

    def test_outcomes_ahead_of_what_comes_behind_them(self):
        text = "fn f(a: ref) { g(a, a); if { read a; } }" + PICK
        self.assert_runs(text, 20, (0, 1, (2, 0), 3, 4, 5, 6, 7), (0, 1, (2, 0), 3, 4, 6, 7),
                         (0, 1, (2, "none"), 3, 4, 5, 6, 7), (0, 1, (2, "none"), 3, 4, 6, 7),
                         outcomes={"g": (0, "none")})

    def test_calls_in_loops(self):
        text = "fn f() { loop { g(); if { break; } } } fn g() { }"
        runs = ((0, (1, "none"), 2, 0, (1, "none"), 2, 3), (0, (1, "none"), 2, 3))
        self.assert_runs(text, 9, *runs, outcomes={"g": ("none",)})
        self.assert_runs(text, 9, outcomes={"g": ()})


class New(unittest.TestCase):
    def test_what_is_told_is_new_and_nothing_is_changed(self):
        program = parse_program("fn f(a: ref) { g(a, a); }" + PICK)
        outcomes = {"f": ("none",), "g": (0, 1)}
        first = all_runs(program, 0, outcomes, 9)
        first.append(())
        self.assertEqual(len(all_runs(program, 0, outcomes, 9)), 2)
        self.assertEqual(outcomes, {"f": ("none",), "g": (0, 1)})


if __name__ == "__main__":
    unittest.main()
