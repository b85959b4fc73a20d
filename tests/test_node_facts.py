"""s3, s4: what each kind of node uses, accesses, clears and fills."""

import unittest

from loancheck.graphs import graph
from loancheck.reading import parse_program
from loancheck.states import accessed_at, cleared_at, put_at, used_at

HEADS = """ fn take(p: own) { } fn three(p: own, q: ref, r: mut) { }
fn make() -> own { let p = new; return p; } fn pick(p: ref, q: ref) -> ref { return p; }
"""


class Facts(unittest.TestCase):
    def assert_node(self, text, number, operation, used, accessed, cleared, put):
        """Looks at a node of the first function; several places are told in one text."""
        program = parse_program(text + HEADS)
        self.assertEqual(graph(program, 0)[number][0], operation)
        self.assertEqual(used_at(program, 0, number), tuple(used.split()))
        self.assertEqual(accessed_at(program, 0, number), accessed)
        self.assertEqual(cleared_at(program, 0, number), tuple(cleared.split()))
        self.assertEqual(put_at(program, 0, number), put)


class Values(Facts):
    def test_new(self):
        self.assert_node("fn f() { let x = new; }", 0, ("new", "x"), "", None, "x", "x")
        self.assert_node("fn f(x: own) { x = new; }", 0, ("new", "#t"), "", None, "#t", "#t")

    def test_move_of_an_owner(self):
        self.assert_node("fn f(a: own) { let x = a; }", 0, ("move", "x", "a"), "a", ("a", "write"), "a x", "x")

    def test_move_of_an_exclusive_reference(self):
        self.assert_node("fn f(a: mut) { let x = a; }", 0, ("move", "x", "a"), "a", ("a", "write"), "a x", "x")

    def test_move_to_an_earlier_place(self):
        self.assert_node("fn f(a: own, b: own) { a = b; }", 2, ("move", "a", "#t"), "#t", None, "a #t", "a")
        self.assert_node("fn f(a: own, b: own) { a = b; }", 0, ("move", "#t", "b"), "b", ("b", "write"), "b #t", "#t")

    def test_move_to_an_argument_and_to_the_result(self):
        self.assert_node("fn f(a: own) { take(a); }", 0, ("move", "#0", "a"), "a", ("a", "write"), "a #0", "#0")
        self.assert_node("fn f(a: own) -> own { return a; }", 0, ("move", "#r", "a"), "a", ("a", "write"), "a #r", "#r")

    def test_copy(self):
        self.assert_node("fn f(a: ref) { let x = a; }", 0, ("copy", "x", "a"), "a", None, "x", "x")
        self.assert_node("fn f(a: ref) -> ref { return a; }", 0, ("copy", "#r", "a"), "a", None, "#r", "#r")

    def test_borrow_for_reading(self):
        self.assert_node("fn f(a: own) { let x = ref a; }", 0, ("borrow", "x", "a", "ref"), "a", ("a", "read"), "x", "x")
        self.assert_node("fn f(a: mut) { pick(ref a, ref a); }", 0, ("borrow", "#0", "a", "ref"), "a", ("a", "read"), "#0", "#0")

    def test_borrow_for_writing(self):
        self.assert_node("fn f(a: own) { let x = mut a; }", 0, ("borrow", "x", "a", "mut"), "a", ("a", "write"), "x", "x")
        self.assert_node("fn f(a: mut) { let x = mut a; }", 0, ("borrow", "x", "a", "mut"), "a", ("a", "write"), "x", "x")


class Uses(Facts):
    def test_read(self):
        for kind in ("own", "ref", "mut"):
            self.assert_node("fn f(a: %s) { read a; }" % kind, 0, ("read", "a"), "a", ("a", "read"), "", None)

    def test_write(self):
        for kind in ("own", "mut"):
            self.assert_node("fn f(a: %s) { write a; }" % kind, 0, ("write", "a"), "a", ("a", "write"), "", None)

    def test_drop(self):
        self.assert_node("fn f(a: own) { drop a; }", 0, ("drop", "a"), "a", ("a", "write"), "a", None)

    def test_drop_of_the_temporary_place(self):
        self.assert_node("fn f() { make(); }", 1, ("drop", "#t"), "#t", None, "#t", None)


class Endings(Facts):
    def test_clear_of_an_owner(self):
        self.assert_node("fn f(a: own) { a = new; }", 1, ("clear", "a"), "", ("a", "write"), "a", None)

    def test_clear_of_references(self):
        self.assert_node("fn f(a: ref) { a = a; }", 1, ("clear", "a"), "", None, "a", None)
        self.assert_node("fn f(a: mut) { a = mut a; }", 1, ("clear", "a"), "", None, "a", None)

    def test_clear_of_the_temporary_place(self):
        self.assert_node("fn f(a: ref) { pick(a, a); }", 3, ("clear", "#t"), "", None, "#t", None)

    def test_end_of_an_owner(self):
        self.assert_node("fn f(a: own) { }", 0, ("end", "a"), "", ("a", "write"), "a", None)
        self.assert_node("fn f() { let x = make(); }", 1, ("end", "x"), "", ("x", "write"), "x", None)

    def test_end_of_references(self):
        self.assert_node("fn f(a: ref) { }", 0, ("end", "a"), "", None, "a", None)
        self.assert_node("fn f(a: mut) { }", 0, ("end", "a"), "", None, "a", None)
        self.assert_node("fn f(a: own) { let x = ref a; }", 1, ("end", "x"), "", None, "x", None)

    def test_exit_of_a_function_without_a_result(self):
        self.assert_node("fn f() { }", 0, ("exit",), "", None, "", None)

    def test_exit_of_a_function_with_a_result(self):
        for kind, word in (("own", "move"), ("ref", "copy"), ("mut", "move")):
            self.assert_node("fn f(a: %s) -> %s { return a; }" % (kind, kind), 2, ("exit",), "#r", None, "", None)

    def test_each_exit_uses_the_result(self):
        text = "fn f(a: ref) -> ref { if { return a; } return a; }"
        self.assert_node(text, 3, ("exit",), "#r", None, "", None)
        self.assert_node(text, 6, ("exit",), "#r", None, "", None)


class Others(Facts):
    def test_call_without_anything(self):
        self.assert_node("fn f() { f(); }", 0, ("call", "f", None, 0), "", None, "", None)

    def test_call_with_arguments(self):
        self.assert_node("fn f(a: own) { take(a); }", 1, ("call", "take", None, 1), "#0", None, "#0", None)
        self.assert_node("fn f(a: own, b: ref, c: mut) { three(a, b, c); }", 3, ("call", "three", None, 3),
                         "#0 #1 #2", None, "#0 #1 #2", None)

    def test_call_with_a_target(self):
        self.assert_node("fn f() { let x = make(); }", 0, ("call", "make", "x", 0), "", None, "x", "x")
        self.assert_node("fn f(a: ref) { let x = pick(a, a); }", 2, ("call", "pick", "x", 2), "#0 #1", None,
                         "x #0 #1", "x")

    def test_call_with_the_temporary_place_as_target(self):
        self.assert_node("fn f(a: ref) { pick(a, a); }", 2, ("call", "pick", "#t", 2), "#0 #1", None, "#0 #1 #t", "#t")
        self.assert_node("fn f() { make(); }", 0, ("call", "make", "#t", 0), "", None, "#t", "#t")

    def test_loop_and_choose(self):
        self.assert_node("fn f() { loop { break; } }", 0, ("loop",), "", None, "", None)
        self.assert_node("fn f(a: own) { if { read a; } }", 0, ("choose",), "", None, "", None)


class OtherFunctions(unittest.TestCase):
    def test_a_function_is_told_by_its_number(self):
        program = parse_program("fn f() { } fn g(a: own) -> own { return a; } fn h(a: own) { drop a; }")
        self.assertEqual(used_at(program, 0, 0), ())
        self.assertEqual(used_at(program, 1, 2), ("#r",))
        self.assertEqual(accessed_at(program, 2, 0), ("a", "write"))
        self.assertEqual(cleared_at(program, 1, 0), ("a", "#r"))
        self.assertEqual(put_at(program, 1, 0), "#r")


if __name__ == "__main__":
    unittest.main()
