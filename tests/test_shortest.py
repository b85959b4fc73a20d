"""r1: the first of the shortest runs that commit a problem."""

import unittest

from runners import steps

from loancheck.check import check
from loancheck.reading import parse_program
from loancheck.runs import replay
from loancheck.shortest import shortest
from loancheck.summaries import outcomes

EXAMPLE = "fn main() { let x = new; let r = ref x; if { write x; } read r; }"


class Shortest(unittest.TestCase):
    def assert_run(self, text, problem, *told):
        """Looks at the run of a problem, which replay takes, and which commits it with the last step alone."""
        program = parse_program(text)
        self.assertIn(problem, check(program))
        run = shortest(program, problem)
        self.assertEqual(run, steps(*told))
        function = [head[0] for head in program].index(problem[0])
        known = outcomes(program)
        self.assertIn(problem, replay(program, function, known, run)[1])
        self.assertEqual(run[-1][1], None)
        shorter = run[:-1]
        if shorter:
            shorter = shorter[:-1] + ((shorter[-1][0], None),)
        self.assertNotIn(problem, replay(program, function, known, shorter)[1])
        self.assertEqual(program, parse_program(text))

    def assert_f(self, body, problem, *told, others=""):
        """The same for a function without parameters, and a problem without its name."""
        self.assert_run("fn f() { " + body + " }" + others, ("f", *problem), *told)


class Document(Shortest):
    def test_the_example_at_the_beginning(self):
        program = parse_program(EXAMPLE)
        self.assertEqual(shortest(program, check(program)[0]), ((0, None), (1, None), (2, None), (3, None), (4, None)))
        self.assert_run(EXAMPLE, ("main", 3, "conflict", "x", 1), 0, 1, 2, 3, 4)

    def test_the_example_of_the_interface(self):
        text = "fn f(a: own) { if { drop a; } read a; }"
        self.assertEqual(shortest(parse_program(text), ("f", 2, "no value", "a", None)), ((0, None), (1, None), (2, None)))
        self.assert_run(text, ("f", 2, "no value", "a", None), 0, 1, 2)


class NoValue(Shortest):
    def test_it_ends_at_the_node(self):
        self.assert_f("let x = new; drop x; read x; read x;", (2, "no value", "x", None), 0, 1, 2)
        self.assert_f("let x = new; drop x; read x; read x;", (3, "no value", "x", None), 0, 1, 2, 3)

    def test_at_the_first_node(self):
        # No function begins with such a node; the shortest run there can be has two steps.
        self.assert_run("fn f(a: own) { drop a; drop a; }", ("f", 1, "no value", "a", None), 0, 1)

    def test_the_shorter_one_of_two_branches(self):
        self.assert_f("let x = new; if { read x; drop x; } else { drop x; } read x;", (5, "no value", "x", None), 0, 1, 4, 5)
        self.assert_f("let x = new; if { drop x; } else { read x; drop x; } read x;", (5, "no value", "x", None), 0, 1, 2, 5)

    def test_the_first_one_of_branches_of_the_same_length(self):
        self.assert_f("let x = new; if { drop x; } else { drop x; } read x;", (4, "no value", "x", None), 0, 1, 2, 4)
        self.assert_f(
            "let x = new; if { read x; } else { read x; } if { drop x; } read x;",
            (6, "no value", "x", None), 0, 1, 2, 4, 5, 6,
        )

    def test_by_numbers_of_nodes_not_by_branches(self):
        # The first follower of the choose is node 6, the second one node 4; the runs are of the same length.
        self.assert_run(
            "fn f(b: own, c: ref) { loop { loop { read b; if { break; } drop b; read c; } drop b; } }",
            ("f", 2, "no value", "b", None), 0, 1, 2, 3, 4, 5, 1, 2,
        )

    def test_round_a_loop(self):
        self.assert_f("let x = new; loop { read x; drop x; }", (2, "no value", "x", None), 0, 1, 2, 3, 1, 2)
        self.assert_f("let x = new; loop { drop x; if { x = new; } }", (2, "no value", "x", None), 0, 1, 2, 3, 1, 2)

    def test_it_has_a_value_again(self):
        self.assert_f("let x = new; drop x; x = new; if { drop x; } read x;",
                      (7, "no value", "x", None), 0, 1, 2, 3, 4, 5, 6, 7)


class Conflict(Shortest):
    def test_it_ends_at_the_later_use(self):
        self.assert_f("let x = new; let r = ref x; write x; read x; read r;",
                      (2, "conflict", "x", 1), 0, 1, 2, 3, 4)

    def test_at_a_call(self):
        self.assert_f("let x = new; g(mut x, mut x);", (2, "conflict", "x", 1), 0, 1, 2, 3,
                      others=" fn g(a: mut, b: mut) { }")
        self.assert_f("let x = new; g(mut x, mut x);", (2, "conflict", "x", 1), 0, 1, 2, 3,
                      others=" fn g(a: mut, b: mut) { loop { } }")

    def test_at_an_exit(self):
        self.assert_run("fn f() -> ref { let x = new; let r = ref x; return r; }", ("f", 4, "conflict", "x", 1), 0, 1, 2, 3, 4, 5)

    def test_the_nearest_use(self):
        body = "let x = new; let r = ref x; let s = r; write x; if { read x; read r; } else { read s; }"
        self.assert_f(body, (3, "conflict", "x", 1), 0, 1, 2, 3, 4, 7)

    def test_the_first_one_of_uses_that_are_as_near(self):
        body = "let x = new; let r = ref x; let s = r; write x; if { read s; } else { read r; }"
        self.assert_f(body, (3, "conflict", "x", 1), 0, 1, 2, 3, 4, 5)

    def test_the_loan_is_made_in_a_branch(self):
        body = "let x = new; let y = new; let r = ref y; if { read y; r = ref x; } else { r = ref y; } write x; read r;"
        self.assert_f(body, (11, "conflict", "x", 5), 0, 1, 2, 3, 4, 5, 6, 7, 11, 12)

    def test_round_a_loop(self):
        self.assert_f("let x = new; let r = ref x; loop { read r; write x; }", (4, "conflict", "x", 1), 0, 1, 2, 3, 4, 2, 3)
        # The loan is made behind the node, and the place is used ahead of it: it takes more than one round.
        self.assert_f(
            "let x = new; let y = new; let r = ref y; loop { if { read r; } if { write x; } else { r = ref x; } }",
            (7, "conflict", "x", 8), 0, 1, 2, 3, 4, 6, 8, 9, 10, 3, 4, 6, 7, 3, 4, 5,
        )

    def test_the_node_more_than_once(self):
        # The first time that the run goes over the node there is no loan yet.
        self.assert_f(
            "let x = new; let y = new; let r = ref y; loop { write x; read r; r = ref x; }",
            (4, "conflict", "x", 6), 0, 1, 2, 3, 4, 5, 6, 7, 8, 3, 4, 5,
        )

    def test_by_one_place_or_by_another(self):
        body = "let x = new; let y = new; let r = ref x; let s = ref y; if { s = r; r = ref y; } write x; if { read r; } read s;"
        self.assert_f(body, (11, "conflict", "x", 2), 0, 1, 2, 3, 4, 11, 12, 13)
        self.assert_f(body.replace("if { read r; } ", ""), (11, "conflict", "x", 2), 0, 1, 2, 3, 4, 5, 6, 7, 8, 9, 10, 11, 12)


class Outcomes(Shortest):
    PICK = " fn pick(a: mut, b: mut) -> mut { if { return a; } return b; }"

    def test_the_outcome_that_hands_the_loan_back(self):
        text = "fn f() { let x = new; let y = new; let r = pick(mut x, mut y); read x; read y; write r; }" + self.PICK
        self.assert_run(text, ("f", 5, "conflict", "x", 2), 0, 1, 2, 3, (4, 0), 5, 6, 7)
        self.assert_run(text, ("f", 6, "conflict", "y", 3), 0, 1, 2, 3, (4, 1), 5, 6, 7)

    def test_the_first_one_of_several(self):
        text = "fn f() { let x = new; let r = pick(mut x, mut x); drop x; drop x; write r; }" + self.PICK
        self.assert_run(text, ("f", 5, "no value", "x", None), 0, 1, 2, (3, 0), 4, 5)

    def test_numbers_ahead_of_none(self):
        keep = (
            " fn g(a: ref, b: ref) -> ref { let o = new; let r = ref o; if { return a; } if { return b; } return r; }"
        )
        text = "fn f(a: own) { let x = g(ref a, ref a); drop a; drop a; }" + keep
        self.assertEqual(outcomes(parse_program(text))["g"], (0, 1, "none"))
        self.assert_run(text, ("f", 4, "no value", "a", None), 0, 1, (2, 0), 3, 4)
        text = "fn f(a: own) { h(ref a); drop a; drop a; } fn h(a: ref) { }"
        self.assert_run(text, ("f", 3, "no value", "a", None), 0, (1, "none"), 2, 3)

    def test_outcomes_count_ahead_of_the_nodes_behind(self):
        text = (
            "fn f(a: own, b: ref) { let r = g(b, ref a); if { write a; read r; } else { drop a; read r; } }"
            " fn g(a: ref, b: ref) -> ref { if { return a; } return b; }"
        )
        self.assert_run(text, ("f", 4, "conflict", "a", 1), 0, 1, (2, 1), 3, 4, 5)
        self.assert_run(text, ("f", 6, "conflict", "a", 1), 0, 1, (2, 1), 3, 6, 7)

    def test_several_calls(self):
        text = (
            "fn f() { let x = new; let y = new; let r = pick(mut x, mut y); let s = pick(mut y, r); read x; write s; }"
            + self.PICK
        )
        self.assert_run(text, ("f", 8, "conflict", "x", 2), 0, 1, 2, 3, (4, 0), 5, 6, (7, 1), 8, 9)
        # What r holds by the outcome 1 is handed over behind the second loan of y.
        self.assert_run(text, ("f", 5, "conflict", "y", 3), 0, 1, 2, 3, (4, 1), 5, 6)

    def test_the_last_step_is_a_call(self):
        self.assert_run(
            "fn f(a: own) { let r = ref a; drop a; g(r); } fn g(a: ref) { }", ("f", 1, "conflict", "a", 0), 0, 1, 2
        )
        self.assert_run(
            "fn f(a: own) { g(a, ref a, ref a); } fn g(a: own, b: ref, c: ref) { }", ("f", 1, "no value", "a", None), 0, 1
        )


class Functions(Shortest):
    def test_problems_of_several_functions(self):
        text = "fn g(a: own) { drop a; read a; } fn f(a: own, b: own) { drop b; drop a; read b; read a; }"
        self.assert_run(text, ("g", 1, "no value", "a", None), 0, 1)
        self.assert_run(text, ("f", 2, "no value", "b", None), 0, 1, 2)
        self.assert_run(text, ("f", 3, "no value", "a", None), 0, 1, 2, 3)


if __name__ == "__main__":
    unittest.main()
