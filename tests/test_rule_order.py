"""u2: of two faults in one program, the one that counts."""

import unittest

from loancheck.reading import parse_text
from loancheck.rules import rule_fault


class Order(unittest.TestCase):
    def assert_first(self, text, *expected):
        self.assertEqual(rule_fault(parse_text(text)), expected, text)


class OneStatement(Order):
    def test_let(self):
        self.assert_first("fn f(a: own) { let a = b; }", 0, 0, "duplicate variable a")
        self.assert_first("fn f(a: own) { let a = g(); }", 0, 0, "duplicate variable a")
        eight = "".join(f"let {name} = new; " for name in "abcdefgh")
        self.assert_first("fn f() { " + eight + "let a = new; }", 0, 8, "duplicate variable a")
        self.assert_first("fn f() { " + eight + "let i = z; }", 0, 8, "too many variables")
        self.assert_first("fn f() { let b = ref a; }", 0, 0, "unknown variable a")

    def test_assignment(self):
        self.assert_first("fn f() { x = y; }", 0, 0, "unknown variable x")
        self.assert_first("fn f() { x = g(); }", 0, 0, "unknown variable x")
        self.assert_first("fn f(x: own, y: ref) { x = ref y; }", 0, 0, "reference to shared y")
        self.assert_first("fn f(x: own, y: ref) { y = ref z; }", 0, 0, "unknown variable z")
        self.assert_first("fn f(x: ref) { x = g(); } fn g() { }", 0, 0, "no result of g")
        self.assert_first("fn f(x: ref) { x = g(x); } fn g() -> own { let a = new; return a; }", 0, 0,
                          "wrong number of arguments")

    def test_call(self):
        self.assert_first("fn f(x: own) { g(y); }", 0, 0, "unknown function g")
        self.assert_first("fn f(x: ref) { g(ref x); } fn g(a: own) { }", 0, 0, "reference to shared x")
        self.assert_first("fn f(x: ref) { g(x, y); } fn g(a: own) { }", 0, 0, "wrong kind of argument 0")
        self.assert_first("fn f(x: ref) { g(y, x); } fn g(a: own, b: own) { }", 0, 0, "unknown variable y")
        self.assert_first("fn f(x: ref) { g(x); } fn g(a: own, b: own) { }", 0, 0, "wrong kind of argument 0")
        self.assert_first("fn f(x: own) { g(x, y); } fn g(a: own) { }", 0, 0, "unknown variable y")
        self.assert_first("fn f(x: ref) { g(x, mut x); } fn g(a: ref) { }", 0, 0, "reference to shared x")
        self.assert_first("fn f(x: own) { let y = g(x, x); } fn g(a: own) { }", 0, 0, "wrong number of arguments")
        self.assert_first("fn f(x: ref) { let y = g(x); } fn g(a: own) { }", 0, 0, "wrong kind of argument 0")
        self.assert_first("fn f(x: ref) { x = g(x); } fn g(a: own) -> own { return a; }", 0, 0,
                          "wrong kind of argument 0")

    def test_return(self):
        self.assert_first("fn f() { return x; }", 0, 0, "unknown variable x")
        self.assert_first("fn f() -> own { return x; }", 0, 0, "unknown variable x")
        self.assert_first("fn f(x: ref) { return x; }", 0, 0, "unexpected result")


class TwoStatements(Order):
    def test_the_first_one_counts(self):
        self.assert_first("fn f() { read x; read y; }", 0, 0, "unknown variable x")
        self.assert_first("fn f(a: own) { read a; break; let a = new; }", 0, 1, "not in a loop")
        self.assert_first("fn f(a: own) { let a = new; break; }", 0, 0, "duplicate variable a")

    def test_through_blocks(self):
        self.assert_first("fn f() { if { read x; } else { read y; } read z; }", 0, 1, "unknown variable x")
        self.assert_first("fn f() { if { } else { read y; } read z; }", 0, 1, "unknown variable y")
        self.assert_first("fn f() { loop { break; } break; read z; }", 0, 2, "not in a loop")
        self.assert_first("fn f() { if { loop { read x; } } return x; }", 0, 2, "unknown variable x")

    def test_a_head_against_its_body(self):
        self.assert_first("fn f(a: own, a: own) { read x; }", 0, None, "duplicate variable a")
        self.assert_first("fn f(a: own, b: own, c: own, d: own) { let a = new; }", 0, None, "too many parameters")

    def test_two_faults_in_one_head(self):
        self.assert_first("fn f(a: own, a: own, b: own, c: own) { }", 0, None, "duplicate variable a")
        self.assert_first("fn f(a: own, b: own, c: own, a: own) { }", 0, None, "too many parameters")
        self.assert_first("fn f(a: own, b: own, b: own, a: own) { }", 0, None, "duplicate variable b")

    def test_a_statement_against_the_end(self):
        self.assert_first("fn f() -> own { read x; }", 0, 0, "unknown variable x")
        self.assert_first("fn f(a: ref) { " + "read a;" * 70 + " read x; }", 0, 70, "unknown variable x")
        self.assert_first("fn f(a: own) -> own { return; }", 0, 0, "missing result")

    def test_two_faults_at_the_end(self):
        self.assert_first("fn f(a: own) -> own { " + "read a;" * 70 + " }", 0, 70, "missing result")
        self.assert_first("fn f(a: own) -> own { " + "read a;" * 70 + " return a; }", 0, 71, "too many nodes")


class TwoFunctions(Order):
    def test_heads(self):
        self.assert_first("fn f(a: own, a: own) { } fn g(b: own, b: own) { }", 0, None, "duplicate variable a")

    def test_bodies(self):
        self.assert_first("fn f() { if { } read x; } fn g() { read y; }", 0, 1, "unknown variable x")

    def test_a_head_of_a_later_function_against_the_body_of_an_earlier_one(self):
        self.assert_first("fn f() { read x; } fn g(b: own, b: own) { }", 0, 0, "unknown variable x")
        self.assert_first("fn f() { g(); } fn g(a: own, b: own, c: own, d: own) { }", 0, 0,
                          "wrong number of arguments")

    def test_a_head_of_a_later_function_against_the_end_of_an_earlier_one(self):
        self.assert_first("fn f() -> own { } fn g(b: own, b: own) { }", 0, 0, "missing result")
        self.assert_first("fn f(a: own) { " + "read a;" * 59 + " } fn g(b: own, b: own) { }", 0, 59,
                          "too many nodes")

    def test_an_end_of_an_earlier_function_against_the_body_of_a_later_one(self):
        self.assert_first("fn f() -> own { } fn g() { read x; }", 0, 0, "missing result")
        self.assert_first("fn f(a: own) { " + "read a;" * 59 + " } fn g() { read x; }", 0, 59, "too many nodes")

    def test_a_call_of_a_function_whose_head_is_faulty(self):
        head = "fn g(a: own, b: own, c: own, d: own) { }"
        self.assert_first("fn f(a: own) { g(a, a, a, a); } " + head, 1, None, "too many parameters")
        self.assert_first("fn f(a: own) { g(a); } " + head, 0, 0, "wrong number of arguments")
        self.assert_first("fn f(a: own) { g(a, a, a, ref a); } " + head, 0, 0, "wrong kind of argument 3")
        self.assert_first("fn f(a: own, b: ref) { g(a, b); } fn g(a: own, a: ref) { }", 1, None,
                          "duplicate variable a")


class Names(Order):
    others = "fn a(){} fn b(){} fn c(){} fn d(){} "

    def test_too_many_functions_against_all_else(self):
        self.assert_first("fn e(x: own, x: own) { read y; }" + self.others + "fn f() { }", 5, None,
                          "too many functions")
        self.assert_first("fn e() { read y; }" + self.others + "fn f() { }", 5, None, "too many functions")
        self.assert_first("fn e() -> own { }" + self.others + "fn f(x: own, x: own) { }", 5, None,
                          "too many functions")

    def test_duplicate_functions_against_all_else(self):
        self.assert_first("fn f(x: own, x: own) { read y; } fn f() { }", 1, None, "duplicate function f")
        self.assert_first("fn f() { read y; } fn g() { } fn f() { }", 2, None, "duplicate function f")
        self.assert_first("fn f() -> own { } fn f(a: own, a: own) { }", 1, None, "duplicate function f")

    def test_both(self):
        self.assert_first("fn e() { }" + self.others + "fn e() { }", 5, None, "too many functions")
        self.assert_first("fn a() { }" + self.others + "fn e() { }", 1, None, "duplicate function a")
        self.assert_first(self.others + "fn a() { } fn e() { }", 4, None, "duplicate function a")
        self.assert_first(self.others + "fn e() { } fn f() { } fn a() { }", 5, None, "too many functions")


if __name__ == "__main__":
    unittest.main()
