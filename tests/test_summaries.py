"""m1, m2: the outcomes and summaries of functions."""

import itertools
import unittest

from loancheck.reading import parse_program
from loancheck.summaries import outcomes, summary


class Summaries(unittest.TestCase):
    def assert_outcomes(self, text, **expected):
        """Looks at the outcomes of all functions, and at the summaries, which follow from them."""
        program = parse_program(text)
        self.assertEqual(outcomes(program), expected)
        self.assertEqual(list(outcomes(program)), [function[0] for function in program])
        for number, function in enumerate(program):
            told = expected[function[0]]
            flows = tuple(outcome for outcome in told if outcome != "none")
            self.assertEqual(summary(program, number), (told != (), flows, "none" in told))


class Plain(Summaries):
    def test_document(self):
        self.assert_outcomes(
            "fn f(a: ref) -> ref { if { return a; } let b = f(a); return b; }"
            " fn g(a: ref) -> ref { let b = g(a); return b; } fn h() { }",
            f=(0,), g=(), h=("none",),
        )

    def test_summaries_of_the_document(self):
        program = parse_program(
            "fn f(a: ref) -> ref { if { return a; } let b = f(a); return b; }"
            " fn g(a: ref) -> ref { let b = g(a); return b; } fn h() { }"
        )
        self.assertEqual(summary(program, 0), (True, (0,), False))
        self.assertEqual(summary(program, 1), (False, (), False))
        self.assertEqual(summary(program, 2), (True, (), True))

    def test_no_functions(self):
        self.assertEqual(outcomes(()), {})

    def test_without_a_result(self):
        self.assert_outcomes("fn f() { }", f=("none",))
        self.assert_outcomes("fn f(a: ref, b: mut, c: own) { read a; write b; if { return; } drop c; }", f=("none",))

    def test_an_owner(self):
        self.assert_outcomes("fn f(a: own) -> own { return a; }", f=("none",))
        self.assert_outcomes("fn f() -> own { let x = new; return x; }", f=("none",))

    def test_a_parameter(self):
        self.assert_outcomes("fn f(a: ref) -> ref { return a; }", f=(0,))
        self.assert_outcomes("fn f(a: mut) -> mut { return a; }", f=(0,))
        self.assert_outcomes("fn f(a: own, b: ref, c: mut) -> mut { return c; }", f=(2,))

    def test_several_parameters(self):
        self.assert_outcomes("fn f(a: ref, b: ref, c: ref) -> ref { if { return c; } return a; }", f=(0, 2))
        self.assert_outcomes("fn f(a: ref, b: ref, c: ref) -> ref { if { return c; } if { return b; } return a; }",
                             f=(0, 1, 2))
        self.assert_outcomes("fn f(a: mut, b: mut) -> mut { let r = a; if { r = b; } return r; }", f=(0, 1))

    def test_a_loan_of_its_own_values(self):
        self.assert_outcomes("fn f() -> ref { let x = new; let r = ref x; return r; }", f=("none",))
        self.assert_outcomes("fn f(a: own) -> mut { let r = mut a; return r; }", f=("none",))

    def test_numbers_ascending_and_then_none(self):
        self.assert_outcomes(
            "fn f(a: ref, b: ref) -> ref { let x = new; let r = ref x; if { return r; } if { return b; } return a; }",
            f=(0, 1, "none"),
        )

    def test_what_a_reference_was_made_through(self):
        self.assert_outcomes("fn f(a: mut) -> ref { let r = ref a; return r; }", f=(0,))
        self.assert_outcomes("fn f(a: mut) -> mut { let r = mut a; let s = mut r; return s; }", f=(0,))

    def test_assignments(self):
        self.assert_outcomes("fn f(a: ref, b: ref) -> ref { a = b; return a; }", f=(1,))
        self.assert_outcomes("fn f(a: mut, b: mut) -> mut { let r = a; a = b; b = r; return b; }", f=(0,))
        self.assert_outcomes("fn f(a: ref) -> ref { let x = new; a = ref x; return a; }", f=("none",))
        self.assert_outcomes("fn f(a: mut) -> mut { a = mut a; return a; }", f=(0,))

    def test_without_a_value(self):
        self.assert_outcomes("fn f(a: mut, b: mut) -> mut { let r = a; let s = a; return s; }", f=("none",))
        self.assert_outcomes("fn f(a: mut, b: mut) -> mut { let r = a; if { r = b; } return a; }", f=("none",))


class Ways(Summaries):
    def test_it_never_comes_back(self):
        self.assert_outcomes("fn f() { loop { } }", f=())
        self.assert_outcomes("fn f(a: ref) -> ref { loop { if { } else { continue; } } return a; }", f=())
        self.assert_outcomes("fn f() { f(); }", f=())

    def test_nor_does_what_calls_it(self):
        self.assert_outcomes("fn f() { g(); } fn g() { loop { } }", f=(), g=())
        self.assert_outcomes("fn g() { loop { } } fn f(a: ref) -> ref { g(); return a; }", f=(), g=())
        self.assert_outcomes("fn f() { g(); } fn g() { h(); } fn h() { g(); }", f=(), g=(), h=())

    def test_other_ways_come_back(self):
        self.assert_outcomes("fn f(a: ref, b: ref) -> ref { if { g(); return a; } return b; } fn g() { loop { } }",
                             f=(1,), g=())
        self.assert_outcomes("fn f() { if { g(); } } fn g() { g(); }", f=("none",), g=())

    def test_statements_to_which_nothing_leads(self):
        self.assert_outcomes("fn f(a: ref, b: ref) -> ref { return a; return b; }", f=(0,))
        self.assert_outcomes("fn f(a: ref) -> ref { return a; let x = new; let r = ref x; return r; }", f=(0,))
        self.assert_outcomes("fn f(a: ref) -> ref { loop { } let x = new; let r = ref x; return r; }", f=())

    def test_what_stands_behind_a_call_that_never_comes_back(self):
        self.assert_outcomes(
            "fn f(a: ref) -> ref { let x = new; let r = ref x; if { g(); a = r; } return a; } fn g() { g(); }",
            f=(0,), g=(),
        )

    def test_loops(self):
        self.assert_outcomes(
            "fn f(a: ref, b: ref, c: ref) -> ref { loop { if { break; } a = b; b = c; } return a; }", f=(0, 1, 2)
        )
        self.assert_outcomes("fn f(a: ref, b: ref) -> ref { loop { a = b; if { break; } } return a; }", f=(1,))
        self.assert_outcomes(
            "fn f(a: ref, b: ref) -> ref { loop { if { return a; } let r = a; a = b; b = r; if { break; } } return b; }",
            f=(0, 1),
        )

    def test_the_end_of_an_inner_scope(self):
        self.assert_outcomes("fn f(a: ref) -> ref { let r = a; if { let x = new; r = ref x; } return r; }", f=(0, "none"))


class Calls(Summaries):
    PICK = " fn g(p: ref, q: ref) -> ref { return q; }"

    def test_what_a_call_hands_back(self):
        self.assert_outcomes("fn f(a: ref, b: ref) -> ref { let r = g(b, a); return r; }" + self.PICK, f=(0,), g=(1,))
        self.assert_outcomes("fn f(a: ref, b: ref) -> ref { let r = g(a, b); return r; }" + self.PICK, f=(1,), g=(1,))
        self.assert_outcomes(
            "fn f(a: ref) -> ref { let x = new; let r = g(a, ref x); return r; }" + self.PICK, f=("none",), g=(1,)
        )
        self.assert_outcomes("fn f(a: ref) -> ref { let x = new; let r = g(ref x, a); return r; }" + self.PICK,
                             f=(0,), g=(1,))

    def test_calls_in_calls(self):
        self.assert_outcomes(
            "fn f(a: ref, b: ref, c: ref) -> ref { let r = g(a, b); r = g(r, c); r = g(c, r); return r; }" + self.PICK,
            f=(2,), g=(1,),
        )

    def test_a_call_whose_result_is_not_kept(self):
        self.assert_outcomes("fn f(a: ref, b: ref) -> ref { g(a, b); return a; }" + self.PICK, f=(0,), g=(1,))

    def test_a_call_that_hands_back_nothing_of_the_parameters(self):
        self.assert_outcomes("fn f(a: mut) -> mut { let r = h(a); return r; }"
                             " fn h(p: mut) -> mut { let x = new; p = mut x; return p; }", f=("none",), h=("none",))

    def test_owners_bring_nothing(self):
        self.assert_outcomes("fn f(a: own, b: ref) -> ref { let r = h(a); return r; }"
                             " fn h(p: own) -> ref { let r = ref p; return r; }", f=("none",), h=("none",))

    def test_it_calls_itself(self):
        self.assert_outcomes("fn f(a: mut) -> mut { if { return a; } let r = f(mut a); return r; }", f=(0,))
        self.assert_outcomes(
            "fn f(a: ref, b: ref, c: ref) -> ref { if { return a; } let r = f(b, c, a); return r; }", f=(0, 1, 2)
        )
        self.assert_outcomes(
            "fn f(a: ref) -> ref { let x = new; if { return a; } let r = f(ref x); return r; }", f=(0, "none")
        )
        self.assert_outcomes("fn f(a: ref, b: ref) -> ref { let r = f(b, a); if { return a; } return r; }", f=())

    def test_an_outcome_that_takes_many_calls(self):
        self.assert_outcomes(
            "fn f(a: ref, b: ref, c: ref) -> ref { if { return a; } let r = g(a, b, c); return r; }"
            "fn g(a: ref, b: ref, c: ref) -> ref { let r = h(b, c, a); return r; }"
            "fn h(a: ref, b: ref, c: ref) -> ref { let r = f(a, b, c); return r; }",
            f=(0, 1, 2), g=(0, 1, 2), h=(0, 1, 2),
        )

    def test_functions_in_any_order(self):
        functions = (
            "fn a(p: ref, q: ref) -> ref { let r = b(q, p); return r; }",
            "fn b(p: ref, q: ref) -> ref { if { let r = a(p, q); return r; } let s = c(p, q); return s; }",
            "fn c(p: ref, q: ref) -> ref { if { return q; } let r = b(p, q); return r; }",
            "fn d(p: ref, q: ref) -> ref { let r = e(p, q); return r; }",
            "fn e(p: ref, q: ref) -> ref { d(p, q); return q; }",
        )
        told = {"a": (0, 1), "b": (0, 1), "c": (0, 1), "d": (), "e": ()}
        for order in itertools.permutations(functions):
            self.assertEqual(outcomes(parse_program(" ".join(order))), told)

    def test_functions_that_wait_for_one_another(self):
        self.assert_outcomes(
            "fn f(a: ref) -> ref { let r = g(a); if { return r; } return a; }"
            "fn g(a: ref) -> ref { let r = f(a); return r; }", f=(), g=(),
        )
        self.assert_outcomes(
            "fn f(a: ref) -> ref { if { let r = g(a); return r; } return a; }"
            "fn g(a: ref) -> ref { let r = f(a); return r; }", f=(0,), g=(0,),
        )


class New(unittest.TestCase):
    def test_what_is_told_is_new_and_nothing_is_changed(self):
        text = "fn f(a: ref) -> ref { if { return a; } let b = f(a); return b; } fn h() { }"
        program = parse_program(text)
        first = outcomes(program)
        first["f"] = ()
        first["more"] = (1,)
        self.assertEqual(outcomes(program), {"f": (0,), "h": ("none",)})
        self.assertEqual(summary(program, 0), (True, (0,), False))
        self.assertEqual(program, parse_program(text))


if __name__ == "__main__":
    unittest.main()
