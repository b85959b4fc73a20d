"""k2, k3: the regions of loans, and when the values of owners are dropped."""

import unittest

from loancheck.check import drops, region
from loancheck.graphs import graph
from loancheck.reading import parse_program

PICK = " fn pick(a: mut, b: mut) -> mut { if { return a; } return b; }"


class Regions(unittest.TestCase):
    def assert_region(self, body, maker, expected, others=""):
        self.assert_region_in("fn f() { " + body + " }" + others, maker, expected)

    def assert_region_in(self, text, maker, expected):
        program = parse_program(text)
        self.assertEqual(graph(program, 0)[maker][0][0], "borrow")
        self.assertEqual(region(program, 0, maker), expected)

    def test_up_to_the_last_use(self):
        self.assert_region("let x = new; let r = ref x; read x; read r; write x;", 1, [2, 3])

    def test_never_used_again(self):
        self.assert_region("let x = new; let r = ref x;", 1, [])
        self.assert_region("let x = new; let r = ref x; write x; r = ref x; read r;", 1, [])

    def test_no_run_reaches_the_borrow(self):
        self.assert_region("let x = new; return; let r = ref x; read r;", 3, [])
        self.assert_region("let x = new; loop { } let r = ref x; read r;", 2, [])

    def test_no_run_comes_to_the_use(self):
        self.assert_region("let x = new; let r = ref x; g(); read r;", 1, [], " fn g() { loop { } }")

    def test_branches(self):
        body = "let x = new; let y = new; let r = ref y; if { r = ref x; } write x; read r;"
        self.assert_region(body, 2, [3, 7, 8])
        self.assert_region(body, 4, [5, 6, 7, 8])

    def test_loops(self):
        self.assert_region("let x = new; loop { let r = ref x; if { read r; } else { break; } } read x;", 2, [3, 4])
        self.assert_region("let x = new; let r = ref x; loop { read r; }", 1, [2, 3])
        # A loan of one round that is used in the next one.
        self.assert_region("let x = new; let r = ref x; loop { read r; write x; r = ref x; }", 5, [2, 3, 6, 7])

    def test_moves(self):
        body = "let x = new; let r = mut x; let s = mut r; let t = s; write x; write t;"
        self.assert_region(body, 1, [2, 3, 4, 5])
        self.assert_region(body, 2, [3, 4, 5])

    def test_copies(self):
        self.assert_region("let x = new; let r = ref x; let s = r; read s; read r;", 1, [2, 3, 4])
        self.assert_region("let x = new; let r = ref x; let s = r; read r; read s;", 1, [2, 3, 4])
        self.assert_region("let x = new; let r = ref x; let s = r; r = s; read r;", 1, [2, 3, 4, 5, 6])

    def test_calls(self):
        self.assert_region("let x = new; g(mut x); write x;", 1, [2], " fn g(a: mut) { }")
        text = "fn f(a: mut, b: mut) { let x = new; let r = pick(mut x, a); read b; write r; }" + PICK
        self.assert_region_in(text, 1, [2, 3, 4, 5])
        text = "fn f(a: mut) { let x = new; let r = g(mut x, a); write r; } fn g(a: mut, b: mut) -> mut { return b; }"
        self.assert_region_in(text, 1, [2, 3])

    def test_loans_of_loans(self):
        body = "let x = new; let r = mut x; let s = ref r; let t = ref x; read s; read t;"
        self.assert_region(body, 1, [2, 3, 4])
        self.assert_region(body, 2, [3, 4])
        self.assert_region(body, 3, [4, 5])

    def test_handed_back(self):
        # The loan is gone with the end of the parameter, ahead of the exit.
        self.assert_region_in("fn f(a: mut) -> mut { let r = mut a; return r; }", 0, [1, 2, 3])

    def test_a_loan_that_is_gone(self):
        self.assert_region("let x = new; let r = ref x; drop x; read r;", 1, [2])
        self.assert_region("let x = new; let r = mut x; let s = mut r; let t = r; write s; write t;", 2, [3])
        self.assert_region("let x = new; let r = mut x; let s = mut r; let t = r; write s; write t;", 1, [2, 3, 4, 5])

    def test_a_list_that_is_new(self):
        program = parse_program("fn f() { let x = new; let r = ref x; read r; }")
        region(program, 0, 1).clear()
        self.assertEqual(region(program, 0, 1), [2])


class Drops(unittest.TestCase):
    def assert_drops(self, text, *expected, function=0):
        self.assertEqual(drops(parse_program(text), function), list(expected))

    def test_document(self):
        self.assert_drops("fn f(a: own) { if { drop a; } }", (2, "a", "sometimes"))

    def test_always(self):
        self.assert_drops("fn f(a: own) { }", (0, "a", "always"))
        self.assert_drops("fn f() { let x = new; x = new; }", (2, "x", "always"), (4, "x", "always"))

    def test_never(self):
        self.assert_drops("fn f(a: own) { drop a; }", (1, "a", "never"))
        self.assert_drops("fn f(a: own) { drop a; a = new; drop a; }", (2, "a", "never"), (5, "a", "never"))
        self.assert_drops("fn f(a: own) -> own { return a; }", (1, "a", "never"))
        self.assert_drops("fn f(a: own) { g(a); } fn g(a: own) { let b = a; }", (2, "a", "never"))
        self.assert_drops("fn f(a: own) { g(a); } fn g(a: own) { let b = a; }",
                          (1, "b", "always"), (2, "a", "never"), function=1)

    def test_sometimes(self):
        self.assert_drops("fn f(a: own, b: own) { if { drop a; } a = b; if { b = new; } }",
                          (3, "a", "sometimes"), (7, "b", "never"), (9, "b", "sometimes"), (10, "a", "always"))
        self.assert_drops("fn f(a: own) { loop { a = new; drop a; if { break; } } }",
                          (2, "a", "sometimes"), (6, "a", "never"))

    def test_other_ways_take_the_value_too(self):
        self.assert_drops("fn f(a: own) { if { drop a; } else { let b = a; } }",
                          (3, "b", "always"), (4, "a", "never"))

    def test_unreachable(self):
        self.assert_drops("fn f() { let x = new; loop { } }", (2, "x", "unreachable"))
        self.assert_drops("fn f() { loop { let x = new; break; } }", (2, "x", "always"), (3, "x", "unreachable"))
        self.assert_drops("fn f(a: own) { g(); a = new; } fn g() { g(); }", (2, "a", "unreachable"), (4, "a", "unreachable"))

    def test_a_value_that_is_taken_where_no_run_comes_back(self):
        self.assert_drops("fn f(a: own) { if { drop a; g(); } } fn g() { loop { } }", (3, "a", "always"))

    def test_none_for_references_the_temporary_place_and_drops(self):
        self.assert_drops("fn f(a: ref, b: mut) { a = ref b; b = mut b; }")
        self.assert_drops("fn f() { g(); h(); } fn g() -> own { let x = new; return x; } fn h() -> ref { let r = h(); return r; }")
        self.assert_drops("fn f(a: own) { drop a; return; }", (1, "a", "never"))

    def test_by_nodes(self):
        self.assert_drops("fn f(a: own, b: own, c: own) { drop b; return; }",
                          (1, "c", "always"), (2, "b", "never"), (3, "a", "always"))

    def test_a_list_that_is_new(self):
        program = parse_program("fn f(a: own) { }")
        drops(program, 0).clear()
        self.assertEqual(drops(program, 0), [(0, "a", "always")])


if __name__ == "__main__":
    unittest.main()
