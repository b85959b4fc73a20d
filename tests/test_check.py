"""k1, a2, s5: the problems of programs."""

import unittest

from loancheck.check import check
from loancheck.reading import parse_program
from loancheck.runs import replay
from loancheck.shortest import shortest
from loancheck.summaries import outcomes

PICK = " fn pick(a: mut, b: mut) -> mut { if { return a; } return b; }"
FIRST = " fn first(a: mut, b: mut) -> mut { return a; }"


class Check(unittest.TestCase):
    def problems(self, text):
        """The problems of a program; each is one that its run commits."""
        program = parse_program(text)
        found = check(program)
        names = [function[0] for function in program]
        for problem in found:
            told = replay(program, names.index(problem[0]), outcomes(program), shortest(program, problem))
            self.assertIn(problem, told[1])
        self.assertEqual(program, parse_program(text))
        return found

    def assert_problems(self, body, *expected, others=""):
        """The problems of a function without parameters, each told without its name: (node, kind, variable, maker)."""
        found = self.problems("fn f() { " + body + " }" + others)
        self.assertEqual(found, [("f", *problem) for problem in expected])


class Document(Check):
    def test_the_example_at_the_beginning(self):
        text = "fn main() { let x = new; let r = ref x; if { write x; } read r; }"
        self.assertEqual(self.problems(text), [("main", 3, "conflict", "x", 1)])

    def test_the_example_of_the_interface(self):
        text = (
            "fn first(a: mut, b: mut) -> mut { if { return a; } return b; } fn main() { let x = new; let y = new;"
            " let r = first(mut x, mut y); read y; write r; }"
        )
        self.assertEqual(self.problems(text), [("main", 5, "conflict", "y", 3)])

    def test_no_problems(self):
        self.assertEqual(check(()), [])
        self.assert_problems("")
        self.assert_problems("let x = new; let r = ref x; read x; read r; write x; drop x;")
        self.assertEqual(self.problems("fn f(a: mut) -> mut { write a; return a; }" + PICK), [])


class NoValue(Check):
    def test_each_use_of_a_variable(self):
        for use in ("read x;", "write x;", "drop x;", "let y = x;", "let y = ref x;", "let y = mut x;", "g(x);", "x = x;"):
            self.assert_problems("let x = new; drop x; " + use, (2, "no value", "x", None), others=" fn g(a: own) { }")

    def test_a_reference_that_was_moved(self):
        self.assert_problems("let x = new; let r = mut x; let s = r; write r;", (3, "no value", "r", None))
        self.assertEqual(self.problems("fn f(a: mut) -> mut { let b = a; return a; }"), [("f", 1, "no value", "a", None)])

    def test_a_shared_reference_is_copied(self):
        self.assert_problems("let x = new; let r = ref x; let s = r; read r; read s;")

    def test_ends_and_clears_use_nothing(self):
        self.assert_problems("let x = new; drop x; x = new; drop x;")

    def test_it_has_a_value_again(self):
        self.assert_problems("let x = new; drop x; x = new; read x;")

    def test_in_one_branch_alone(self):
        self.assert_problems("let x = new; if { drop x; } read x;", (3, "no value", "x", None))
        self.assert_problems("let x = new; if { drop x; } else { read x; }")
        self.assert_problems("let x = new; if { drop x; x = new; } read x;")

    def test_in_another_round_of_a_loop(self):
        self.assert_problems("let x = new; loop { drop x; }", (2, "no value", "x", None))
        self.assert_problems("let x = new; loop { if { drop x; break; } read x; }")
        self.assert_problems("loop { let x = new; drop x; }")

    def test_one_node_for_one_variable_once(self):
        self.assert_problems("let x = new; loop { if { drop x; } if { drop x; } }",
                             (3, "no value", "x", None), (5, "no value", "x", None))

    def test_places_that_are_no_variables_are_not_told(self):
        self.assert_problems("let x = new; drop x; g(x);", (2, "no value", "x", None), others=" fn g(a: own) { drop a; }")


class Conflict(Check):
    def test_a_shared_loan(self):
        begin = "let x = new; let r = ref x; "
        self.assert_problems(begin + "read x; read r;")
        self.assert_problems(begin + "let s = ref x; read s; read r;")
        for use, many in (("write x;", 1), ("drop x;", 1), ("let y = x;", 1), ("let s = mut x;", 1), ("x = new;", 2)):
            self.assert_problems(begin + use + " read r;", (1 + many, "conflict", "x", 1))

    def test_an_exclusive_loan(self):
        begin = "let x = new; let r = mut x; "
        for use, many in (
            ("read x;", 1), ("let s = ref x;", 1), ("write x;", 1), ("drop x;", 1), ("let y = x;", 1),
            ("let s = mut x;", 1), ("x = new;", 2),
        ):
            self.assert_problems(begin + use + " read r;", (1 + many, "conflict", "x", 1))
        self.assert_problems(begin + "read r; write r; read x;")

    def test_the_end_of_an_owner(self):
        self.assert_problems("let x = new; let r = ref x; if { let y = new; r = ref y; } read r;", (7, "conflict", "y", 4))
        self.assertEqual(self.problems("fn f() -> ref { let x = new; let r = ref x; return r; }"),
                         [("f", 4, "conflict", "x", 1)])

    def test_the_end_and_the_clear_of_a_reference_are_no_access(self):
        self.assertEqual(self.problems("fn f(a: mut) -> mut { let r = mut a; return r; }"), [])
        self.assert_problems("let x = new; let r = mut x; let s = mut r; r = s; write r;")

    def test_a_copy_is_no_access(self):
        self.assertEqual(self.problems("fn f(a: ref) -> ref { let r = a; let s = a; return r; }"), [])

    def test_the_loan_of_another_variable(self):
        self.assert_problems("let x = new; let y = new; let r = mut x; write y; read r;")

    def test_it_is_not_used_later(self):
        self.assert_problems("let x = new; let r = mut x; write r; write x;")
        self.assert_problems("let x = new; let r = mut x; write x; let y = new; r = mut y; read r;")

    def test_a_use_in_another_branch(self):
        self.assert_problems("let x = new; let r = ref x; if { write x; } else { read r; }")
        self.assert_problems("let x = new; let r = ref x; write x; if { } else { read r; }", (2, "conflict", "x", 1))

    def test_the_run_that_holds_and_the_run_that_uses(self):
        self.assert_problems("let x = new; let y = new; let r = ref y; if { r = ref x; } write x; if { read r; }",
                             (7, "conflict", "x", 4))

    def test_several_loans_at_one_node(self):
        self.assert_problems("let x = new; let r = ref x; let s = ref x; write x; read s; read r;",
                             (3, "conflict", "x", 1), (3, "conflict", "x", 2))

    def test_one_loan_in_several_places(self):
        self.assert_problems("let x = new; let r = ref x; let s = r; let t = s; write x; read t; read r; read s;",
                             (4, "conflict", "x", 1))

    def test_one_of_several_places_is_used_later(self):
        self.assert_problems("let x = new; let r = ref x; let s = r; write x; read s;", (3, "conflict", "x", 1))

    def test_loans_of_loans(self):
        begin = "let x = new; let r = mut x; let s = mut r; "
        self.assert_problems(begin + "read x; write s;", (3, "conflict", "x", 1))
        self.assert_problems(begin + "read r; write s;", (3, "conflict", "r", 2))
        self.assert_problems(begin + "write s; write r; write x;")
        self.assert_problems(begin + "let t = ref s; write x; read t;", (4, "conflict", "x", 1))
        self.assert_problems(begin + "let t = ref s; write r; read t;", (4, "conflict", "r", 2))
        self.assert_problems(begin + "let t = ref s; write s; read t;", (4, "conflict", "s", 3))
        self.assert_problems(begin + "let t = r; write s; write t;", (3, "conflict", "r", 2))

    def test_arguments_hold_loans(self):
        self.assert_problems("let x = new; g(mut x, mut x);", (2, "conflict", "x", 1), others=" fn g(a: mut, b: mut) { }")
        self.assert_problems("let x = new; g(ref x, ref x);", others=" fn g(a: ref, b: ref) { }")
        self.assert_problems("let x = new; g(ref x, x);", (2, "conflict", "x", 1), others=" fn g(a: ref, b: own) { }")
        self.assert_problems("let x = new; g(x, ref x);", (2, "no value", "x", None), others=" fn g(a: own, b: ref) { }")


class PutInto(Check):
    """The node puts something into the place that holds the loan."""

    def test_a_loan_that_is_made_again_in_a_loop(self):
        self.assertEqual(self.problems("fn f() { let x = new; loop { g(mut x); } } fn g(a: mut) { }"), [])
        self.assert_problems("let x = new; let r = mut x; loop { r = mut x; write r; }")
        self.assert_problems("let x = new; let r = mut x; loop { write r; r = mut x; }")

    def test_the_place_is_put_into_by_the_node_itself(self):
        text = "fn f() { loop { let x = new; if { h(mut x); } if { let r = mut x; write r; } } } fn h(a: mut) { }"
        self.assertEqual(self.problems(text), [])

    def test_a_place_that_keeps_the_loan_of_an_earlier_round(self):
        begin = "let x = new; let y = new; let r = mut y; let s = mut y; loop { r = mut x; "
        # Nothing is used of what an earlier round made: r and s are filled anew in each.
        self.assert_problems(begin + "s = mut r; write s; }")
        self.assert_problems(begin + "if { s = mut r; } write s; }", (5, "conflict", "x", 5))

    def test_a_node_that_empties_the_place_is_not_a_node_that_fills_it(self):
        # The place is filled again behind the node, so what is used later is another value.
        self.assert_problems("let x = new; let r = ref x; loop { x = new; r = ref x; read r; }")


class OnlyBehind(Check):
    """A use that comes later only behind something that is put into the place, its clear or its end (k1, a2)."""

    def test_behind_an_assignment(self):
        self.assert_problems("let x = new; let y = new; let r = ref x; write x; r = ref y; read r;")
        self.assert_problems("let x = new; let y = new; let r = ref x; write x; if { r = ref y; } read r;",
                             (3, "conflict", "x", 2))

    def test_behind_an_end(self):
        self.assert_problems("let x = new; loop { let r = ref x; read r; write x; }")
        self.assert_problems("let x = new; let r = ref x; loop { read r; write x; }", (4, "conflict", "x", 1))

    def test_behind_a_move(self):
        self.assert_problems("let x = new; let y = new; let r = mut x; let s = r; write x; r = mut y; write r;")
        self.assert_problems("let x = new; let y = new; let r = mut x; let s = r; write x; r = mut y; write r; write s;",
                             (4, "conflict", "x", 2))

    def test_a_loan_in_one_branch_and_a_use_in_another_behind_the_node(self):
        self.assert_problems(
            "let x = new; let y = new; let r = ref y; if { r = ref x; } else { read y; } drop x; if { } else { read r; }",
            (8, "conflict", "x", 4),
        )

    def test_a_use_of_another_place_alone(self):
        self.assert_problems("let x = new; let y = new; let r = ref x; let s = ref y; write x; read s;")


class Calls(Check):
    def test_by_one_parameter_or_another(self):
        begin = "let x = new; let y = new; let r = "
        end = "(mut x, mut y); read x; read y; write r;"
        self.assert_problems(begin + "pick" + end, (5, "conflict", "x", 2), (6, "conflict", "y", 3), others=PICK)
        self.assert_problems(begin + "first" + end, (5, "conflict", "x", 2), others=FIRST)

    def test_it_comes_back_with_no_parameter(self):
        text = "fn f() { let x = new; let r = g(mut x); read x; write r; } fn g(a: mut) -> mut { let y = a; return a; }"
        self.assertEqual(self.problems(text), [("g", 1, "no value", "a", None)])

    def test_by_functions_that_call_themselves(self):
        text = (
            "fn f() { let x = new; let y = new; let r = turn(mut x, mut y); read x; read y; write r; }"
            " fn turn(a: mut, b: mut) -> mut { if { return a; } let r = turn(b, a); return r; }"
        )
        self.assertEqual(self.problems(text), [("f", 5, "conflict", "x", 2), ("f", 6, "conflict", "y", 3)])
        text = text.replace("if { return a; } ", "")
        self.assertEqual(self.problems(text), [])

    def test_by_functions_that_call_one_another(self):
        text = (
            "fn f() { let x = new; let y = new; let r = one(mut x, mut y); read x; read y; write r; }"
            " fn one(a: mut, b: mut) -> mut { let r = two(b, a); return r; }"
            " fn two(a: mut, b: mut) -> mut { if { let r = one(b, a); return r; } return a; }"
        )
        self.assertEqual(self.problems(text), [("f", 6, "conflict", "y", 3)])

    def test_the_loans_of_what_is_handed_over(self):
        self.assert_problems("let x = new; let s = mut x; let r = first(mut s, mut s); read x; write r;",
                             (3, "conflict", "s", 2), (5, "conflict", "x", 1), others=FIRST)

    def test_a_result_that_is_not_kept(self):
        self.assert_problems("let x = new; let y = new; pick(mut x, mut y); write x; write y;", others=PICK)

    def test_a_call_that_never_comes_back(self):
        text = "fn f() { let x = new; drop x; g(); read x; } fn g() { loop { } }"
        self.assertEqual(self.problems(text), [])
        text = "fn f() { let x = new; let r = ref x; write x; if { g(); read r; } } fn g() { g(); }"
        self.assertEqual(self.problems(text), [])

    def test_the_arguments_of_a_call_that_never_comes_back_are_used(self):
        text = "fn f() { let x = new; g(mut x, mut x); } fn g(a: mut, b: mut) { loop { } }"
        self.assertEqual(self.problems(text), [("f", 2, "conflict", "x", 1)])

    def test_what_parameters_brought_is_no_loan_of_a_node(self):
        self.assertEqual(self.problems("fn f(a: mut, b: ref) { let r = ref a; write a; read b; }"), [])
        self.assertEqual(self.problems("fn f(a: mut) { let r = ref a; write a; read r; }"), [("f", 1, "conflict", "a", 0)])


class Never(Check):
    def test_no_run_reaches_the_node(self):
        self.assert_problems("let x = new; drop x; return; read x;")
        self.assert_problems("let x = new; drop x; loop { } read x;")
        self.assert_problems("let x = new; let r = ref x; loop { break; write x; } read r;")

    def test_no_run_makes_the_loan(self):
        self.assert_problems("let x = new; let y = new; let r = ref y; loop { break; r = ref x; } write x; read r;")

    def test_no_run_comes_to_the_use(self):
        self.assert_problems("let x = new; let r = ref x; write x; return; read r;")


class Order(Check):
    def test_functions_nodes_no_value_first_then_makers(self):
        body = (
            "let x = new; let r = ref x; let s = ref x; if { drop x; } write x; read x; read s; read r;"
        )
        expected = [
            (4, "conflict", "x", 1), (4, "conflict", "x", 2),
            (5, "no value", "x", None), (5, "conflict", "x", 1), (5, "conflict", "x", 2),
            (6, "no value", "x", None),
        ]
        # The drop of x takes its loans away, but not in the run that goes on without it.
        self.assert_problems(body, *expected)
        two = self.problems("fn g() { " + body + " } fn f() { " + body + " }")
        self.assertEqual(two, [(name, *problem) for name in ("g", "f") for problem in expected])

    def test_a_list_that_is_new(self):
        program = parse_program("fn f(a: own) { drop a; read a; }")
        found = check(program)
        self.assertEqual(found, [("f", 1, "no value", "a", None)])
        found.clear()
        self.assertEqual(check(program), [("f", 1, "no value", "a", None)])


if __name__ == "__main__":
    unittest.main()
