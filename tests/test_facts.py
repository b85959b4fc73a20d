"""a1, a2: what is told of the nodes of functions."""

import unittest

from loancheck.facts import facts
from loancheck.graphs import graph
from loancheck.reading import parse_program

NEVER = (False, (), (), (), ())
OTHERS = "#0 #1 #2 #t #r"


class Facts(unittest.TestCase):
    def read(self, text, function=0):
        self.program = parse_program(text)
        self.nodes = graph(self.program, function)
        self.rows = facts(self.program, function)
        self.assertEqual(len(self.rows), len(self.nodes))

    def assert_values(self, node, has, lacks):
        """Places are told with spaces between them; the five that each function has are lacking, but those in has."""
        others = [place for place in OTHERS.split() if place not in has.split()]
        self.assertEqual(self.rows[node][:2], (True, tuple(has.split())))
        self.assertEqual(self.rows[node][2], (*lacks.split(), *others))

    def assert_holds(self, node, *pairs):
        """A pair is told as "place k" for the loan of parameter k, "place @n" for that of node n."""
        told = []
        for pair in pairs:
            place, loan = pair.split()
            told.append((place, ("node", int(loan[1:])) if loan[0] == "@" else ("param", int(loan))))
        self.assertEqual(self.rows[node][3], tuple(told))

    def assert_later(self, node, places):
        self.assertEqual(self.rows[node][4], tuple(places.split()))

    def assert_row(self, node, has, lacks, holds, later):
        self.assert_values(node, has, lacks)
        self.assert_holds(node, *holds)
        self.assert_later(node, later)

    def place(self, *operation):
        """The number of the one node with an operation."""
        found = [node for node, (other, _) in enumerate(self.nodes) if other == operation]
        self.assertEqual(len(found), 1, operation)
        return found[0]


class Operations(Facts):
    """The five items of the node behind each operation."""

    def setUp(self):
        self.read(
            "fn f(a: own, b: ref, c: mut) { let x = new; let y = a; let r = b; let s = mut c; let t = ref x;"
            " read t; write s; drop y; r = ref x; }"
        )

    def test_the_beginning(self):
        self.assert_row(0, "a b c", "x y r s t", ("b 1", "c 2"), "a b c")

    def test_new(self):
        self.assertEqual(self.nodes[0][0], ("new", "x"))
        self.assert_row(1, "a b c x", "y r s t", ("b 1", "c 2"), "a b c x")

    def test_move(self):
        self.assertEqual(self.nodes[1][0], ("move", "y", "a"))
        self.assert_row(2, "b c x y", "a r s t", ("b 1", "c 2"), "b c x y")

    def test_copy(self):
        self.assertEqual(self.nodes[2][0], ("copy", "r", "b"))
        self.assert_row(3, "b c x y r", "a s t", ("b 1", "c 2", "r 1"), "c x y")

    def test_borrow(self):
        self.assertEqual(self.nodes[3][0], ("borrow", "s", "c", "mut"))
        self.assert_row(4, "b c x y r s", "a t", ("b 1", "c 2", "r 1", "s 2", "s @3"), "x y s")
        self.assertEqual(self.nodes[4][0], ("borrow", "t", "x", "ref"))
        self.assert_row(5, "b c x y r s t", "a", ("b 1", "c 2", "r 1", "s 2", "s @3", "t @4"), "x y s t")

    def test_read_and_write(self):
        self.assertEqual([self.nodes[5][0], self.nodes[6][0]], [("read", "t"), ("write", "s")])
        self.assert_row(6, "b c x y r s t", "a", ("b 1", "c 2", "r 1", "s 2", "s @3", "t @4"), "x y s")
        self.assert_row(7, "b c x y r s t", "a", ("b 1", "c 2", "r 1", "s 2", "s @3", "t @4"), "x y")

    def test_drop(self):
        self.assertEqual(self.nodes[7][0], ("drop", "y"))
        self.assert_row(8, "b c x r s t", "a y", ("b 1", "c 2", "r 1", "s 2", "s @3", "t @4"), "x")

    def test_clear(self):
        self.assertEqual([self.nodes[8][0], self.nodes[9][0]], [("borrow", "#t", "x", "ref"), ("clear", "r")])
        self.assert_row(9, "b c x r s t #t", "a y", ("b 1", "c 2", "r 1", "s 2", "s @3", "t @4", "#t @8"), "#t")
        self.assert_row(10, "b c x s t #t", "a y r", ("b 1", "c 2", "s 2", "s @3", "t @4", "#t @8"), "#t")
        self.assert_row(11, "b c x r s t", "a y", ("b 1", "c 2", "r @8", "s 2", "s @3", "t @4"), "")

    def test_end(self):
        self.assertEqual([self.nodes[11][0], self.nodes[12][0]], [("end", "t"), ("end", "s")])
        self.assert_row(12, "b c x r s", "a y t", ("b 1", "c 2", "r @8", "s 2", "s @3"), "")
        self.assert_row(13, "b c x r", "a y s t", ("b 1", "c 2", "r @8"), "")
        self.assertEqual([self.nodes[14][0], self.nodes[18][0]], [("end", "y"), ("end", "a")])
        self.assert_row(14, "b c x", "a y r s t", ("b 1", "c 2"), "")
        self.assert_row(19, "", "a b c x y r s t", (), "")

    def test_the_whole_tuple(self):
        self.read("fn f(a: ref) { if { read a; } }")
        others = ("#0", "#1", "#2", "#t", "#r")
        holds = (("a", ("param", 0)),)
        self.assertEqual(self.rows, (
            (True, ("a",), others, holds, ("a",)),
            (True, ("a",), others, holds, ("a",)),
            (True, ("a",), others, holds, ()),
            (True, (), ("a", *others), (), ()),
        ))


class OtherOperations(Facts):
    def test_choose_and_loop(self):
        self.read("fn f() { let x = new; loop { if { let y = x; break; } } }")
        self.assertEqual([self.nodes[1][0], self.nodes[2][0]], [("loop",), ("choose",)])
        self.assert_row(1, "x", "y", (), "x")
        self.assert_row(2, "x", "y", (), "x")
        self.assert_row(3, "x", "y", (), "x")
        self.assertEqual(self.nodes[5], (("end", "y"), (1,)))
        self.assertEqual(self.rows[5], NEVER)
        self.assert_row(6, "", "x y", (), "")

    def test_call(self):
        self.read(
            "fn f(a: ref) { let x = g(a, a); read x; h(a); g(a, x); }"
            " fn g(a: ref, b: ref) -> ref { if { return a; } return b; } fn h(a: ref) { }"
        )
        self.assert_row(2, "a #0 #1", "x", ("a 0", "#0 0", "#1 0"), "a #0 #1")
        self.assertEqual(self.nodes[2][0], ("call", "g", "x", 2))
        self.assert_row(3, "a x", "", ("a 0", "x 0"), "a x")
        self.assertEqual(self.nodes[5][0], ("call", "h", None, 1))
        self.assert_row(5, "a x #0", "", ("a 0", "x 0", "#0 0"), "a x #0")
        self.assert_row(6, "a x", "", ("a 0", "x 0"), "a x")
        self.assertEqual(self.nodes[8][0], ("call", "g", "#t", 2))
        self.assert_row(9, "a x #t", "", ("a 0", "x 0", "#t 0"), "")
        self.assertEqual(self.nodes[9][0], ("clear", "#t"))
        self.assert_row(10, "a x", "", ("a 0", "x 0"), "")

    def test_a_call_with_several_outcomes(self):
        self.read(
            "fn f(a: ref, b: ref) { let o = new; let x = g(b, a, ref o); read x; }"
            " fn g(a: ref, b: ref, c: ref) -> ref { let r = a; if { r = c; } return r; }"
        )
        behind = self.place("read", "x")
        self.assert_holds(behind, "a 0", "b 1", "x 1", "x @3")

    def test_a_call_with_the_outcome_none(self):
        self.read("fn f(a: mut) { let x = g(a); write x; } fn g(a: mut) -> mut { let o = new; let r = mut o; return r; }")
        self.assert_row(2, "x", "a", (), "x")

    def test_a_temporary_value_that_is_dropped(self):
        self.read("fn f() { g(); } fn g() -> own { let x = new; return x; }")
        self.assertEqual([self.nodes[0][0], self.nodes[1][0]], [("call", "g", "#t", 0), ("drop", "#t")])
        self.assert_row(1, "#t", "", (), "#t")
        self.assert_row(2, "", "", (), "")

    def test_exits(self):
        self.read("fn f(a: ref, b: own) -> ref { return a; }")
        self.assert_row(1, "a b #r", "", ("a 0", "#r 0"), "#r")
        self.assert_row(3, "#r", "a b", ("#r 0",), "#r")
        self.assertEqual(self.nodes[3][0], ("exit",))
        self.read("fn f(a: ref) { return; }")
        self.assertEqual(self.nodes[1][0], ("exit",))
        self.assert_row(1, "", "a", (), "")


class Values(Facts):
    def test_in_some_run_and_not_in_another(self):
        self.read("fn f(a: own) { if { drop a; } }")
        self.assertEqual(self.rows[2][1:3], (("a",), ("a", "#0", "#1", "#2", "#t", "#r")))

    def test_round_a_loop(self):
        self.read("fn f(a: own) { loop { if { break; } drop a; } read a; }")
        self.assertEqual(self.nodes[0], (("loop",), (1,)))
        for node in range(4):
            self.assert_values(node, "a", "a")

    def test_a_variable_of_a_branch(self):
        self.read("fn f() { if { let x = new; read x; } }")
        self.assert_values(0, "", "x")
        self.assert_values(2, "x", "")
        self.assert_values(4, "", "x")

    def test_what_is_moved_of_a_place_without_a_value_gives_one(self):
        self.read("fn f(a: own) { drop a; let x = a; read x; }")
        self.assert_values(2, "x", "a")

    def test_several_at_once(self):
        self.read("fn f(a: own, b: own) { if { drop a; } else { drop b; } }")
        self.assert_values(3, "a b", "a b")


class Holds(Facts):
    def test_loans_in_their_orders(self):
        self.read("fn f(a: mut, b: mut) { let r = a; if { r = mut b; } let s = mut r; write s; }")
        made = self.place("borrow", "#t", "b", "mut")
        again = self.place("borrow", "s", "r", "mut")
        self.assert_holds(self.place("write", "s"),
                          "b 1", "r 0", "r 1", f"r @{made}", "s 0", "s 1", f"s @{made}", f"s @{again}")

    def test_parameters_of_owners_bring_nothing(self):
        self.read("fn f(a: own, b: mut) { }")
        self.assert_holds(0, "b 1")

    def test_loans_that_are_gone(self):
        for gone in ("drop x;", "let y = x;", "x = new;", "x = x;"):
            self.read("fn f() { let x = new; let r = ref x; let s = r; read r; " + gone + " read s; }")
            self.assert_holds(self.place("read", "r"), "r @1", "s @1")
            self.assert_holds(self.place("read", "s"))
        self.read("fn f() { let o = new; let r = ref o; if { let x = new; r = ref x; } read r; }")
        self.assert_holds(self.place("end", "x"), "r @4")
        self.assert_holds(self.place("read", "r"), "r @1")

    def test_loans_of_others_stay(self):
        self.read("fn f() { let x = new; let y = new; let r = ref x; let s = ref y; drop x; read s; }")
        self.assert_holds(self.place("read", "s"), "s @3")

    def test_loans_of_a_reference_are_gone_with_it_but_not_what_it_was_made_through(self):
        self.read("fn f(a: mut) { let r = mut a; let s = mut r; let t = r; write t; write s; }")
        self.assert_holds(self.place("move", "t", "r"), "a 0", "r 0", "r @0", "s 0", "s @0", "s @1")
        self.assert_holds(self.place("write", "t"), "a 0", "s 0", "s @0", "t 0", "t @0")

    def test_a_loop_keeps_what_another_round_made(self):
        self.read("fn f() { let x = new; let r = ref x; loop { read r; r = ref x; if { break; } } }")
        self.assert_holds(self.place("read", "r"), "r @1", "r @4")

    def test_through_calls_that_call_themselves(self):
        self.read(
            "fn f(a: ref, b: ref) -> ref { if { return a; } let x = f(b, a); return x; }"
            " fn main() { let o = new; let p = new; let x = f(ref o, ref p); read x; }", 1
        )
        self.assert_holds(self.place("read", "x"), "x @2", "x @3")


class Later(Facts):
    def test_over_branches(self):
        self.read("fn f(a: ref, b: ref, c: ref) { if { read a; } else { read b; } read c; }")
        self.assert_later(0, "a b c")
        self.assert_later(1, "a c")
        self.assert_later(2, "b c")
        self.assert_later(3, "c")
        self.assert_later(4, "")

    def test_round_loops(self):
        self.read("fn f(a: ref, b: ref) { loop { read a; if { break; } read b; } }")
        self.assertEqual([self.nodes[2], self.nodes[4][0]], [(("choose",), (4, 3)), ("end", "b")])
        for node in range(4):
            self.assert_later(node, "a b")
        self.assert_later(4, "")

    def test_behind_calls(self):
        self.read("fn f(a: ref) { g(); read a; } fn g() { if { g(); } }")
        self.assert_later(0, "a")

    def test_a_use_behind_something_that_is_put_into_it(self):
        self.read("fn f(a: ref, b: ref) { read b; b = a; read b; }")
        self.assert_later(0, "a b")
        self.assert_later(1, "a")
        self.assert_later(self.place("clear", "b"), "#t")
        self.assert_later(self.place("move", "b", "#t"), "#t")
        self.assert_later(4, "b")

    def test_a_node_that_uses_a_place_and_clears_it_uses_it_first(self):
        self.read("fn f(a: mut) { a = a; write a; }")
        self.assert_later(0, "a")
        self.assert_later(1, "#t")
        self.read("fn f(a: own) { g(a); } fn g(a: own) { }")
        self.assert_later(1, "#0")
        self.assert_later(2, "")

    def test_an_end_or_a_clear_is_no_use(self):
        self.read("fn f(a: own) { let x = new; x = a; }")
        self.assert_later(2, "#t")
        self.assert_later(4, "")

    def test_at_an_exit(self):
        self.read("fn f(a: own) -> own { if { return a; } a = new; return a; }")
        for node, (operation, _) in enumerate(self.nodes):
            if operation == ("exit",):
                self.assert_later(node, "#r")
        self.assert_later(0, "a")
        self.read("fn f(a: own) { }")
        self.assert_later(1, "")


class NeverReached(Facts):
    def test_behind_jumps(self):
        self.read("fn f(a: ref) { loop { break; read a; } return; read a; }")
        reads = [node for node, (operation, _) in enumerate(self.nodes) if operation == ("read", "a")]
        self.assertEqual(len(reads), 2)
        for node in reads:
            self.assertEqual(self.rows[node], NEVER)
        self.assertEqual(self.rows[-1], NEVER)

    def test_behind_a_call_that_never_comes_back(self):
        self.read("fn f(a: ref, b: ref) { g(a); read b; } fn g(a: ref) { loop { } }")
        self.assertEqual(self.nodes[1][0], ("call", "g", None, 1))
        self.assert_row(1, "a b #0", "", ("a 0", "b 1", "#0 0"), "#0")
        self.assert_later(0, "a")
        for node in (2, 3, 4, 5):
            self.assertEqual(self.rows[node], NEVER)

    def test_one_branch_comes_back(self):
        self.read("fn f(a: ref, b: ref) { if { g(a); } read b; } fn g(a: ref) { g(a); }")
        self.assert_later(0, "a b")
        self.assert_later(1, "a")
        self.assert_later(2, "#0")
        self.assert_row(3, "a b", "", ("a 0", "b 1"), "b")

    def test_it_calls_itself_and_never_comes_back(self):
        self.read("fn f(a: own) { read a; f(a); read a; }")
        self.assert_later(0, "a")
        self.assert_row(2, "#0", "a", (), "#0")
        self.assertEqual(self.rows[3:], (NEVER,) * 3)


class New(unittest.TestCase):
    def test_what_is_told_is_new_and_nothing_is_changed(self):
        text = "fn f(a: ref) -> ref { let x = new; if { a = ref x; } return a; }"
        program = parse_program(text)
        first = facts(program, 0)
        self.assertEqual(facts(program, 0), first)
        self.assertEqual(program, parse_program(text))
        self.assertIsInstance(first, tuple)
        for row in first:
            self.assertIsInstance(row, tuple)
            self.assertIn(row[0], (True, False))
            for item in row[1:]:
                self.assertIsInstance(item, tuple)


if __name__ == "__main__":
    unittest.main()
