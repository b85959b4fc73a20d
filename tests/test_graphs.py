"""f1, f2, c7: the nodes of each kind of statement and expression, in order, with their followers."""

import unittest

from loancheck.graphs import graph, places
from loancheck.reading import parse_program, parse_text

HEADS = (
    " fn none(p: own) { } fn owner(p: own) -> own { return p; }"
    " fn shared(p: ref, q: ref) -> ref { return p; } fn exclus(p: mut) -> mut { return p; }"
)


class Graphs(unittest.TestCase):
    def assert_graph(self, text, *nodes):
        """Looks at the graph of the first function. Nodes are told as (operation, followers ..)."""
        expected = tuple((node[0], tuple(node[1:])) for node in nodes)
        self.assertEqual(graph(parse_text(text), 0), expected, text)


class Document(Graphs):
    def test_example(self):
        self.assertEqual(
            graph(parse_program("fn f(a: own) { if { drop a; } }"), 0),
            ((("choose",), (1, 2)), (("drop", "a"), (2,)), (("end", "a"), (3,)), (("exit",), ())),
        )

    def test_defined_in_their_file(self):
        self.assertEqual(graph.__module__, "loancheck.graphs")
        self.assertEqual(places.__module__, "loancheck.graphs")


class Values(Graphs):
    def test_let_new(self):
        self.assert_graph("fn f() { let x = new; }", (("new", "x"), 1), (("end", "x"), 2), (("exit",),))

    def test_let_name(self):
        self.assert_graph("fn f(p: own, q: ref, r: mut) { let x = p; let y = q; let z = r; }",
                          (("move", "x", "p"), 1), (("copy", "y", "q"), 2), (("move", "z", "r"), 3),
                          (("end", "z"), 4), (("end", "y"), 5), (("end", "x"), 6), (("end", "r"), 7),
                          (("end", "q"), 8), (("end", "p"), 9), (("exit",),))

    def test_let_references(self):
        self.assert_graph("fn f(p: own, r: mut) { let x = ref p; let y = mut r; }",
                          (("borrow", "x", "p", "ref"), 1), (("borrow", "y", "r", "mut"), 2), (("end", "y"), 3),
                          (("end", "x"), 4), (("end", "r"), 5), (("end", "p"), 6), (("exit",),))

    def test_let_copies_what_was_let(self):
        self.assert_graph("fn f(p: own) { let x = ref p; let y = x; }",
                          (("borrow", "x", "p", "ref"), 1), (("copy", "y", "x"), 2), (("end", "y"), 3),
                          (("end", "x"), 4), (("end", "p"), 5), (("exit",),))

    def test_let_calls(self):
        self.assert_graph("fn f(p: own) { let x = owner(p); }" + HEADS,
                          (("move", "#0", "p"), 1), (("call", "owner", "x", 1), 2), (("end", "x"), 3),
                          (("end", "p"), 4), (("exit",),))
        self.assert_graph("fn f(p: own, q: ref) { let x = shared(ref p, q); }" + HEADS,
                          (("borrow", "#0", "p", "ref"), 1), (("copy", "#1", "q"), 2),
                          (("call", "shared", "x", 2), 3), (("end", "x"), 4), (("end", "q"), 5), (("end", "p"), 6),
                          (("exit",),))

    def test_a_call_with_three_arguments_and_with_none(self):
        self.assert_graph("fn f(p: own, q: ref, r: mut) { f(p, q, r); f(p, ref p, mut r); g(); } fn g() { }",
                          (("move", "#0", "p"), 1), (("copy", "#1", "q"), 2), (("move", "#2", "r"), 3),
                          (("call", "f", None, 3), 4), (("move", "#0", "p"), 5), (("borrow", "#1", "p", "ref"), 6),
                          (("borrow", "#2", "r", "mut"), 7), (("call", "f", None, 3), 8), (("call", "g", None, 0), 9),
                          (("end", "r"), 10), (("end", "q"), 11), (("end", "p"), 12), (("exit",),))

    def test_assignments(self):
        self.assert_graph("fn f(p: own) { p = new; }",
                          (("new", "#t"), 1), (("clear", "p"), 2), (("move", "p", "#t"), 3), (("end", "p"), 4),
                          (("exit",),))
        self.assert_graph("fn f(p: own, q: own) { p = q; p = p; }",
                          (("move", "#t", "q"), 1), (("clear", "p"), 2), (("move", "p", "#t"), 3),
                          (("move", "#t", "p"), 4), (("clear", "p"), 5), (("move", "p", "#t"), 6), (("end", "q"), 7),
                          (("end", "p"), 8), (("exit",),))

    def test_assignments_of_references(self):
        self.assert_graph("fn f(p: own, q: ref, r: mut) { q = q; q = ref p; r = r; r = mut r; }",
                          (("copy", "#t", "q"), 1), (("clear", "q"), 2), (("move", "q", "#t"), 3),
                          (("borrow", "#t", "p", "ref"), 4), (("clear", "q"), 5), (("move", "q", "#t"), 6),
                          (("move", "#t", "r"), 7), (("clear", "r"), 8), (("move", "r", "#t"), 9),
                          (("borrow", "#t", "r", "mut"), 10), (("clear", "r"), 11), (("move", "r", "#t"), 12),
                          (("end", "r"), 13), (("end", "q"), 14), (("end", "p"), 15), (("exit",),))

    def test_assignments_of_calls(self):
        self.assert_graph("fn f(p: own) { p = owner(p); }" + HEADS,
                          (("move", "#0", "p"), 1), (("call", "owner", "#t", 1), 2), (("clear", "p"), 3),
                          (("move", "p", "#t"), 4), (("end", "p"), 5), (("exit",),))


class Statements(Graphs):
    def test_uses(self):
        self.assert_graph("fn f(p: own) { read p; write p; drop p; }",
                          (("read", "p"), 1), (("write", "p"), 2), (("drop", "p"), 3), (("end", "p"), 4), (("exit",),))

    def test_a_call_without_result(self):
        self.assert_graph("fn f(p: own) { none(p); }" + HEADS,
                          (("move", "#0", "p"), 1), (("call", "none", None, 1), 2), (("end", "p"), 3), (("exit",),))

    def test_a_call_with_an_owner_as_its_result(self):
        self.assert_graph("fn f(p: own) { owner(p); }" + HEADS,
                          (("move", "#0", "p"), 1), (("call", "owner", "#t", 1), 2), (("drop", "#t"), 3),
                          (("end", "p"), 4), (("exit",),))

    def test_a_call_with_a_reference_as_its_result(self):
        self.assert_graph("fn f(p: ref) { shared(p, p); }" + HEADS,
                          (("copy", "#0", "p"), 1), (("copy", "#1", "p"), 2), (("call", "shared", "#t", 2), 3),
                          (("clear", "#t"), 4), (("end", "p"), 5), (("exit",),))
        self.assert_graph("fn f(p: own) { exclus(mut p); }" + HEADS,
                          (("borrow", "#0", "p", "mut"), 1), (("call", "exclus", "#t", 1), 2), (("clear", "#t"), 3),
                          (("end", "p"), 4), (("exit",),))

    def test_the_empty_body(self):
        self.assert_graph("fn f() { }", (("exit",),))
        self.assert_graph("fn f(p: own, q: ref) { }", (("end", "q"), 1), (("end", "p"), 2), (("exit",),))


class Returns(Graphs):
    def test_of_each_kind(self):
        self.assert_graph("fn f(p: own) -> own { return p; }",
                          (("move", "#r", "p"), 1), (("end", "p"), 2), (("exit",),))
        self.assert_graph("fn f(p: ref) -> ref { return p; }",
                          (("copy", "#r", "p"), 1), (("end", "p"), 2), (("exit",),))
        self.assert_graph("fn f(p: mut) -> mut { return p; }",
                          (("move", "#r", "p"), 1), (("end", "p"), 2), (("exit",),))

    def test_without_a_name(self):
        self.assert_graph("fn f(p: own) { return; }", (("end", "p"), 1), (("exit",),))
        self.assert_graph("fn f() { return; }", (("exit",),))

    def test_all_scopes_in_reach_end(self):
        self.assert_graph("fn f(p: own) { let x = new; if { let y = new; return; } let z = new; }",
                          (("new", "x"), 1), (("choose",), 2, 8), (("new", "y"), 3), (("end", "y"), 4),
                          (("end", "x"), 5), (("end", "p"), 6), (("exit",),), (("end", "y"), 8),
                          (("new", "z"), 9), (("end", "z"), 10), (("end", "x"), 11), (("end", "p"), 12), (("exit",),))

    def test_a_variable_of_a_block_that_is_closed_is_not_in_reach(self):
        self.assert_graph("fn f() { if { let x = new; } return; }",
                          (("choose",), 1, 3), (("new", "x"), 2), (("end", "x"), 3), (("exit",),))

    def test_nothing_behind_a_return_as_the_last_statement(self):
        self.assert_graph("fn f(p: own) { read p; return; }", (("read", "p"), 1), (("end", "p"), 2), (("exit",),))

    def test_statements_behind_a_return(self):
        self.assert_graph("fn f(p: own) { return; read p; }",
                          (("end", "p"), 1), (("exit",),), (("read", "p"), 3), (("end", "p"), 4), (("exit",),))
        self.assert_graph("fn f(p: own) -> own { return p; return p; }",
                          (("move", "#r", "p"), 1), (("end", "p"), 2), (("exit",),),
                          (("move", "#r", "p"), 4), (("end", "p"), 5), (("exit",),))

    def test_a_return_at_the_end_of_a_block_in_the_body(self):
        self.assert_graph("fn f(p: own) { if { return; } else { return; } }",
                          (("choose",), 1, 3), (("end", "p"), 2), (("exit",),), (("end", "p"), 4), (("exit",),),
                          (("end", "p"), 6), (("exit",),))
        self.assert_graph("fn f() { loop { return; } }", (("loop",), 1), (("exit",),), (("exit",),))

    def test_scopes_end_behind_a_return_too(self):
        self.assert_graph("fn f() { if { let x = new; return; } }",
                          (("choose",), 1, 5), (("new", "x"), 2), (("end", "x"), 3), (("exit",),), (("end", "x"), 5),
                          (("exit",),))


class Branches(Graphs):
    def test_without_else(self):
        self.assert_graph("fn f(p: own) { if { read p; } write p; }",
                          (("choose",), 1, 2), (("read", "p"), 2), (("write", "p"), 3), (("end", "p"), 4), (("exit",),))

    def test_with_else(self):
        self.assert_graph("fn f(p: own) { if { read p; } else { write p; drop p; } }",
                          (("choose",), 1, 2), (("read", "p"), 4), (("write", "p"), 3), (("drop", "p"), 4),
                          (("end", "p"), 5), (("exit",),))

    def test_with_an_empty_else(self):
        self.assert_graph("fn f(p: own) { if { read p; } else { } }",
                          (("choose",), 1, 2), (("read", "p"), 2), (("end", "p"), 3), (("exit",),))

    def test_with_an_empty_first_block(self):
        self.assert_graph("fn f(p: own) { if { } else { read p; } }",
                          (("choose",), 2, 1), (("read", "p"), 2), (("end", "p"), 3), (("exit",),))

    def test_one_follower_if_both_are_the_same(self):
        self.assert_graph("fn f() { if { } }", (("choose",), 1), (("exit",),))
        self.assert_graph("fn f() { if { } else { } }", (("choose",), 1), (("exit",),))
        self.assert_graph("fn f() { if { } else { if { } } }", (("choose",), 2, 1), (("choose",), 2), (("exit",),))
        self.assert_graph("fn f() { loop { if { break; } else { break; } } }",
                          (("loop",), 1), (("choose",), 2), (("exit",),))
        self.assert_graph("fn f() { loop { if { continue; } } }", (("loop",), 1), (("choose",), 0), (("exit",),))

    def test_two_followers_that_are_jumps(self):
        self.assert_graph("fn f() { loop { if { break; } else { continue; } } }",
                          (("loop",), 1), (("choose",), 2, 0), (("exit",),))
        self.assert_graph("fn f() { loop { if { continue; } else { break; } } }",
                          (("loop",), 1), (("choose",), 0, 2), (("exit",),))

    def test_empty_blocks_lead_to_what_comes_behind_an_outer_block(self):
        self.assert_graph("fn f(p: own) { if { if { } else { read p; } } else { write p; } }",
                          (("choose",), 1, 3), (("choose",), 4, 2), (("read", "p"), 4), (("write", "p"), 4),
                          (("end", "p"), 5), (("exit",),))
        self.assert_graph("fn f(p: own) { if { if { if { } } } else { read p; } }",
                          (("choose",), 1, 3), (("choose",), 2, 4), (("choose",), 4), (("read", "p"), 4),
                          (("end", "p"), 5), (("exit",),))

    def test_scopes_end_at_the_end_of_each_block(self):
        self.assert_graph("fn f() { if { let x = new; let y = new; } else { let z = new; } }",
                          (("choose",), 1, 5), (("new", "x"), 2), (("new", "y"), 3), (("end", "y"), 4),
                          (("end", "x"), 7), (("new", "z"), 6), (("end", "z"), 7), (("exit",),))

    def test_an_if_in_the_first_block(self):
        self.assert_graph("fn f(p: own) { if { let x = new; if { read p; } } drop p; }",
                          (("choose",), 1, 5), (("new", "x"), 2), (("choose",), 3, 4), (("read", "p"), 4),
                          (("end", "x"), 5), (("drop", "p"), 6), (("end", "p"), 7), (("exit",),))


class Loops(Graphs):
    def test_a_loop_without_end(self):
        self.assert_graph("fn f() { loop { } }", (("loop",), 0), (("exit",),))
        self.assert_graph("fn f(p: own) { loop { read p; } write p; }",
                          (("loop",), 1), (("read", "p"), 0), (("write", "p"), 3), (("end", "p"), 4), (("exit",),))
        self.assert_graph("fn f() { loop { continue; } }", (("loop",), 0), (("exit",),))
        self.assert_graph("fn f() { loop { loop { } } }", (("loop",), 1), (("loop",), 1), (("exit",),))

    def test_a_break_behind_which_nothing_ends(self):
        self.assert_graph("fn f() { loop { break; } }", (("loop",), 1), (("exit",),))
        self.assert_graph("fn f(p: own) { loop { break; } read p; }",
                          (("loop",), 1), (("read", "p"), 2), (("end", "p"), 3), (("exit",),))

    def test_scopes_end_at_break(self):
        self.assert_graph("fn f(p: own) { let x = new; loop { let y = new; let z = new; break; } }",
                          (("new", "x"), 1), (("loop",), 2), (("new", "y"), 3), (("new", "z"), 4), (("end", "z"), 5),
                          (("end", "y"), 8), (("end", "z"), 7), (("end", "y"), 1), (("end", "x"), 9), (("end", "p"), 10),
                          (("exit",),))

    def test_scopes_end_at_continue(self):
        self.assert_graph("fn f(p: own) { loop { let y = new; if { continue; } } }",
                          (("loop",), 1), (("new", "y"), 2), (("choose",), 3, 4), (("end", "y"), 0), (("end", "y"), 0),
                          (("end", "p"), 6), (("exit",),))

    def test_only_what_is_declared_ahead_of_the_jump_ends(self):
        self.assert_graph("fn f() { loop { let x = new; if { break; } let y = new; } }",
                          (("loop",), 1), (("new", "x"), 2), (("choose",), 3, 4), (("end", "x"), 7), (("new", "y"), 5),
                          (("end", "y"), 6), (("end", "x"), 0), (("exit",),))

    def test_what_is_declared_in_inner_blocks_ends_too(self):
        self.assert_graph("fn f() { loop { let x = new; if { let y = new; if { let z = new; break; } } } }",
                          (("loop",), 1), (("new", "x"), 2), (("choose",), 3, 11), (("new", "y"), 4),
                          (("choose",), 5, 10), (("new", "z"), 6), (("end", "z"), 7), (("end", "y"), 8),
                          (("end", "x"), 12), (("end", "z"), 10), (("end", "y"), 11), (("end", "x"), 0), (("exit",),))

    def test_only_the_innermost_loop_is_left(self):
        self.assert_graph("fn f() { loop { let x = new; loop { let y = new; break; } continue; } }",
                          (("loop",), 1), (("new", "x"), 2), (("loop",), 3), (("new", "y"), 4), (("end", "y"), 6),
                          (("end", "y"), 2), (("end", "x"), 0), (("end", "x"), 0), (("exit",),))

    def test_a_break_leads_to_an_outer_loop(self):
        self.assert_graph("fn f() { loop { loop { break; } } }", (("loop",), 1), (("loop",), 0), (("exit",),))
        self.assert_graph("fn f() { loop { loop { if { break; } } break; } }",
                          (("loop",), 1), (("loop",), 2), (("choose",), 3, 1), (("exit",),))

    def test_a_continue_leads_to_the_innermost_loop(self):
        self.assert_graph("fn f(p: own) { loop { loop { if { continue; } read p; } } }",
                          (("loop",), 1), (("loop",), 2), (("choose",), 1, 3), (("read", "p"), 1), (("end", "p"), 5),
                          (("exit",),))

    def test_a_jump_behind_an_inner_loop_belongs_to_the_outer_one(self):
        self.assert_graph("fn f(p: own) { loop { loop { break; } if { break; } } drop p; }",
                          (("loop",), 1), (("loop",), 2), (("choose",), 3, 0), (("drop", "p"), 4), (("end", "p"), 5),
                          (("exit",),))

    def test_statements_behind_a_jump_have_nodes(self):
        self.assert_graph("fn f(p: own) { loop { break; read p; } }",
                          (("loop",), 2), (("read", "p"), 0), (("end", "p"), 3), (("exit",),))
        self.assert_graph("fn f(p: own) { loop { continue; let x = new; if { break; } } }",
                          (("loop",), 0), (("new", "x"), 2), (("choose",), 3, 4), (("end", "x"), 5), (("end", "x"), 0),
                          (("end", "p"), 6), (("exit",),))
        self.assert_graph("fn f() { loop { break; loop { } } }", (("loop",), 2), (("loop",), 1), (("exit",),))

    def test_a_return_in_a_loop(self):
        self.assert_graph("fn f(p: own) -> own { loop { let x = new; if { return x; } } return p; }",
                          (("loop",), 1), (("new", "x"), 2), (("choose",), 3, 7), (("move", "#r", "x"), 4),
                          (("end", "x"), 5), (("end", "p"), 6), (("exit",),), (("end", "x"), 0),
                          (("move", "#r", "p"), 9), (("end", "p"), 10), (("exit",),))


class LongerFunctions(Graphs):
    def test_nested_loops_and_branches(self):
        text = """
            fn walk(a: own, b: mut) -> own {
              let x = ref a;
              loop {
                let y = mut b;
                if {
                  loop {
                    let z = look(x);
                    if { read z; break; } else { continue; }
                  }
                } else {
                  if { } else { write y; }
                }
                if { break; }
              }
              a = new;
              return a;
            }
            fn look(a: ref) -> ref { return a; }
        """
        self.assert_graph(
            text,
            (("borrow", "x", "a", "ref"), 1),
            (("loop",), 2),
            (("borrow", "y", "b", "mut"), 3),
            (("choose",), 4, 12),
            (("loop",), 5),
            (("copy", "#0", "x"), 6),
            (("call", "look", "z", 1), 7),
            (("choose",), 8, 10),
            (("read", "z"), 9),
            (("end", "z"), 14),
            (("end", "z"), 4),
            (("end", "z"), 4),
            (("choose",), 14, 13),
            (("write", "y"), 14),
            (("choose",), 15, 16),
            (("end", "y"), 17),
            (("end", "y"), 1),
            (("new", "#t"), 18),
            (("clear", "a"), 19),
            (("move", "a", "#t"), 20),
            (("move", "#r", "a"), 21),
            (("end", "x"), 22),
            (("end", "b"), 23),
            (("end", "a"), 24),
            (("exit",),),
        )

    def test_jumps_out_of_each_place(self):
        text = """
            fn jump(p: mut) {
              loop {
                let x = new;
                if {
                  let y = mut x;
                  if { return; }
                  write y;
                } else {
                  loop {
                    if { break; } else { if { continue; } else { return; } }
                    drop x;
                  }
                  continue;
                }
                give(x, p);
              }
              read p;
            }
            fn give(a: own, b: mut) -> own { return a; }
        """
        self.assert_graph(
            text,
            (("loop",), 1),
            (("new", "x"), 2),
            (("choose",), 3, 11),
            (("borrow", "y", "x", "mut"), 4),
            (("choose",), 5, 9),
            (("end", "y"), 6),
            (("end", "x"), 7),
            (("end", "p"), 8),
            (("exit",),),
            (("write", "y"), 10),
            (("end", "y"), 19),
            (("loop",), 12),
            (("choose",), 18, 13),
            (("choose",), 11, 14),
            (("end", "x"), 15),
            (("end", "p"), 16),
            (("exit",),),
            (("drop", "x"), 11),
            (("end", "x"), 0),
            (("move", "#0", "x"), 20),
            (("move", "#1", "p"), 21),
            (("call", "give", "#t", 2), 22),
            (("drop", "#t"), 23),
            (("end", "x"), 0),
            (("read", "p"), 25),
            (("end", "p"), 26),
            (("exit",),),
        )

    def test_loops_three_deep(self):
        text = """
            fn deep(a: ref) {
              loop {
                let x = a;
                loop {
                  let y = x;
                  loop {
                    let z = y;
                    if { break; }
                    if { continue; } else { return; }
                  }
                  if { } else { break; }
                }
                break;
                read x;
              }
            }
        """
        self.assert_graph(
            text,
            (("loop",), 1),
            (("copy", "x", "a"), 2),
            (("loop",), 3),
            (("copy", "y", "x"), 4),
            (("loop",), 5),
            (("copy", "z", "y"), 6),
            (("choose",), 7, 8),
            (("end", "z"), 16),
            (("choose",), 9, 10),
            (("end", "z"), 4),
            (("end", "z"), 11),
            (("end", "y"), 12),
            (("end", "x"), 13),
            (("end", "a"), 14),
            (("exit",),),
            (("end", "z"), 4),
            (("choose",), 18, 17),
            (("end", "y"), 19),
            (("end", "y"), 2),
            (("end", "x"), 22),
            (("read", "x"), 21),
            (("end", "x"), 0),
            (("end", "a"), 23),
            (("exit",),),
        )


class Others(Graphs):
    def test_a_function_by_its_number(self):
        program = parse_program("fn f() { } fn g(a: own) { drop a; } fn h(b: ref) { read b; }")
        self.assertEqual(graph(program, 0), ((("exit",), ()),))
        self.assertEqual(graph(program, 1), ((("drop", "a"), (1,)), (("end", "a"), (2,)), (("exit",), ())))
        self.assertEqual(graph(program, 2), ((("read", "b"), (1,)), (("end", "b"), (2,)), (("exit",), ())))

    def test_node_0_is_the_first_one_of_the_body(self):
        firsts = {
            "": ("exit",), "read a;": ("read", "a"), "if { }": ("choose",), "loop { }": ("loop",),
            "let x = new;": ("new", "x"), "f(a);": ("move", "#0", "a"), "a = new;": ("new", "#t"),
        }
        for text, operation in firsts.items():
            program = parse_text("fn f(a: own) { " + text + " }")
            if text:
                self.assertEqual(graph(program, 0)[0][0], operation)
            else:
                self.assertEqual(graph(program, 0)[0][0], ("end", "a"))

    def test_blocks_60_deep(self):
        nodes = graph(parse_program("fn f() { " + "if{" * 59 + "}" * 59 + " }"), 0)
        self.assertEqual(nodes[:2], ((("choose",), (1, 59)), (("choose",), (2, 59))))
        self.assertEqual(nodes[58:], ((("choose",), (59,)), (("exit",), ())))


class Places(unittest.TestCase):
    def test_variables_and_then_the_others(self):
        program = parse_program(
            "fn f(z: ref, y: own) { if { let b = new; } else { let a = z; } let w = y; } fn g() { } fn h(a: mut) { }"
        )
        self.assertEqual(places(program, 0), ("z", "y", "b", "a", "w", "#0", "#1", "#2", "#t", "#r"))
        self.assertEqual(places(program, 1), ("#0", "#1", "#2", "#t", "#r"))
        self.assertEqual(places(program, 2), ("a", "#0", "#1", "#2", "#t", "#r"))


if __name__ == "__main__":
    unittest.main()
