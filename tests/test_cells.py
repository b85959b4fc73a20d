"""b1, b2: the codes of functions, in full."""

import unittest

from loancheck.cells import make_code
from loancheck.check import check
from loancheck.reading import parse_program


def instructions(text):
    """A code, told with a line for each instruction; words that are numbers, True or False are read as such."""
    found = []
    for line in text.strip().split("\n"):
        found.append(tuple(item(word) for word in line.split()))
    return tuple(found)


def item(word):
    if word.isdigit():
        return int(word)
    return {"True": True, "False": False, "None": None}.get(word, word)


class Codes(unittest.TestCase):
    def assert_code(self, text, *codes):
        """Looks at the codes of the functions, in their order; those that are left out are not looked at."""
        program = parse_program(text)
        self.assertEqual(check(program), [])
        found = make_code(program)
        self.assertEqual(list(found), [function[0] for function in program])
        for (name, code), expected in zip(found.items(), codes):
            self.assertEqual(code, instructions(expected), name)
        self.assertEqual(program, parse_program(text))


class Document(unittest.TestCase):
    def test_document(self):
        program = parse_program(
            "fn take(a: own) { if { drop a; } } fn main() { let x = new; let r = ref x; read r; take(x); }"
        )
        self.assertEqual(make_code(program)["take"], (
            ("choose", 3), ("free", "a"), ("flag", "a", False), ("unless", "a", 6), ("free", "a"), ("flag", "a", False),
            ("leave",),
        ))
        self.assertEqual(make_code(program)["main"], (
            ("take", "x"), ("point", "r", "x"), ("read", "r"), ("move", "#0", "x"), ("call", "take", None, 1),
            ("empty", "r"), ("leave",),
        ))

    def test_no_functions(self):
        self.assertEqual(make_code(()), {})

    def test_what_is_made_is_new(self):
        program = parse_program("fn f() { }")
        make_code(program).clear()
        self.assertEqual(make_code(program), {"f": (("leave",),)})


class Nodes(Codes):
    """Each kind of node in a function without flags."""

    def test_places_and_uses(self):
        self.assert_code(
            "fn f(a: own, b: ref, c: mut) { let x = new; let y = a; let r = b; let s = mut c; let t = ref x; read t;"
            " write s; drop y; r = ref x; }",
            """
            take x
            move y a
            copy r b
            point s c
            point t x
            read t
            write s
            free y
            point #t x
            empty r
            move r #t
            empty t
            empty s
            empty r
            free x
            empty c
            empty b
            leave
            """,
        )

    def test_calls_and_the_temporary_place(self):
        self.assert_code(
            "fn f(a: ref, b: mut) -> ref { g(); let r = h(a, ref b); h(r, r); return r; }"
            " fn g() -> own { let x = new; return x; } fn h(a: ref, b: ref) -> ref { return b; }",
            """
            call g #t 0
            free #t
            copy #0 a
            point #1 b
            call h r 2
            copy #0 r
            copy #1 r
            call h #t 2
            empty #t
            copy #r r
            empty r
            empty b
            empty a
            leave
            """,
            """
            take x
            move #r x
            leave
            """,
            """
            copy #r b
            empty b
            empty a
            leave
            """,
        )

    def test_a_call_without_a_result(self):
        self.assert_code("fn f(a: own, b: mut, c: ref) { f(a, b, c); }", """
            move #0 a
            move #1 b
            copy #2 c
            call f None 3
        """)

    def test_clears_and_ends_of_owners(self):
        self.assert_code("fn f(a: own, b: own) { a = b; b = a; a = b; }", """
            move #t b
            free a
            move a #t
            move #t a
            move b #t
            move #t b
            move a #t
            free a
            leave
        """)

    def test_clears_and_ends_of_references(self):
        self.assert_code("fn f(a: mut, b: mut) { a = b; b = mut a; }", """
            move #t b
            empty a
            move a #t
            point #t a
            empty b
            move b #t
            empty b
            empty a
            leave
        """)


class Blocks(Codes):
    def test_a_choose_with_two_followers(self):
        self.assert_code("fn f(a: mut) { if { read a; } else { write a; } read a; }", """
            choose 3
            read a
            jump 4
            write a
            read a
            empty a
            leave
        """)

    def test_a_choose_whose_first_follower_is_not_the_next_block(self):
        self.assert_code("fn f(a: mut) { loop { if { break; } read a; } write a; }", """
            choose 2
            jump 4
            read a
            jump 0
            write a
            empty a
            leave
        """)

    def test_a_choose_whose_second_follower_is_ahead(self):
        self.assert_code("fn f(a: mut) { loop { read a; if { write a; break; } } }", """
            read a
            choose 0
            write a
            empty a
            leave
        """)

    def test_a_choose_with_one_follower(self):
        self.assert_code("fn f(a: mut) { if { } read a; if { } else { } }", """
            read a
            empty a
            leave
        """)
        self.assert_code("fn f(a: mut) { loop { read a; if { } } }", """
            read a
            jump 0
        """)

    def test_loops(self):
        self.assert_code("fn f() { loop { } }", "jump 0")
        self.assert_code("fn f(a: ref) { loop { loop { read a; } } }", """
            read a
            jump 0
        """)

    def test_blocks_without_instructions(self):
        # Both nodes of the loop that is inside, and the choose that has but one follower, have none.
        self.assert_code("fn f(a: mut) { read a; loop { loop { if { } if { write a; } else { read a; continue; } break; } } }", """
            read a
            choose 4
            write a
            jump 1
            read a
            jump 1
        """)

    def test_a_loop_that_no_run_reaches(self):
        self.assert_code("fn f(a: ref) { return; loop { read a; } }", """
            empty a
            leave
        """)
        self.assert_code("fn f(a: ref) { loop { break; loop { read a; } } read a; }", """
            read a
            empty a
            leave
        """)

    def test_the_next_block_is_the_next_node_that_some_run_reaches(self):
        # The read behind the break has no block, so what is behind the loop comes next.
        self.assert_code("fn f(a: mut) { loop { write a; break; read a; } write a; }", """
            write a
            write a
            empty a
            leave
        """)

    def test_several_exits(self):
        self.assert_code("fn f(a: own) -> own { if { return a; } drop a; a = new; return a; }", """
            choose 3
            move #r a
            leave
            free a
            take #t
            move a #t
            move #r a
            leave
        """)


class NeverBack(Codes):
    """Calls that never come back, and what is behind them."""

    def test_nothing_else_leads_there(self):
        self.assert_code("fn f(a: own) { g(); drop a; } fn g() { loop { } }", "call g None 0", "jump 0")

    def test_the_follower_is_the_next_block(self):
        self.assert_code("fn f(a: own) { if { g(); } drop a; } fn g() { g(); }", """
            choose 2
            call g None 0
            free a
            leave
        """)

    def test_the_follower_is_another_block(self):
        self.assert_code("fn f(a: own, b: ref) { if { g(b); } else { read b; } drop a; } fn g(a: ref) { loop { } }", """
            choose 4
            copy #0 b
            call g None 1
            jump 5
            read b
            free a
            empty b
            leave
        """)

    def test_a_value_that_is_taken_ahead_of_it(self):
        self.assert_code("fn f(a: own) { if { drop a; g(); } } fn g() { g(); }", """
            choose 3
            free a
            call g None 0
            free a
            leave
        """)


class Flags(Codes):
    def test_drop_and_end(self):
        self.assert_code("fn f(a: own) { if { drop a; } else { read a; } }", """
            choose 4
            free a
            flag a False
            jump 5
            read a
            unless a 8
            free a
            flag a False
            leave
        """)

    def test_new_move_and_clear(self):
        self.assert_code("fn f(a: own) { if { drop a; } let b = new; if { a = b; } }", """
            choose 3
            free a
            flag a False
            take b
            flag b True
            choose 13
            move #t b
            flag b False
            unless a 11
            free a
            flag a False
            move a #t
            flag a True
            unless b 16
            free b
            flag b False
            unless a 19
            free a
            flag a False
            leave
        """)

    def test_a_move_between_two_that_are_flagged(self):
        self.assert_code("fn f(a: own) { let b = a; if { drop b; } b = new; if { a = b; } }", """
            move b a
            flag a False
            flag b True
            choose 6
            free b
            flag b False
            take #t
            unless b 10
            free b
            flag b False
            move b #t
            flag b True
            choose 17
            move #t b
            flag b False
            move a #t
            flag a True
            unless b 20
            free b
            flag b False
            unless a 23
            free a
            flag a False
            leave
        """)

    def test_call(self):
        self.assert_code(
            "fn f(a: own) { let x = g(a); if { drop x; } } fn g(a: own) -> own { return a; }",
            """
            move #0 a
            call g x 1
            flag x True
            choose 6
            free x
            flag x False
            unless x 9
            free x
            flag x False
            leave
            """,
            """
            move #r a
            leave
            """,
        )

    def test_borrow_and_copy_have_no_flags_of_their_own(self):
        self.assert_code("fn f(a: own) { let r = ref a; let s = r; read s; if { drop a; } }", """
            point r a
            copy s r
            read s
            choose 6
            free a
            flag a False
            empty s
            empty r
            unless a 11
            free a
            flag a False
            leave
        """)

    def test_always_and_never_of_one_that_is_flagged(self):
        self.assert_code("fn f(a: own) { if { drop a; } a = new; a = new; drop a; }", """
            choose 3
            free a
            flag a False
            take #t
            unless a 7
            free a
            flag a False
            move a #t
            flag a True
            take #t
            free a
            move a #t
            flag a True
            free a
            flag a False
            leave
        """)

    def test_one_that_is_not_flagged_beside_one_that_is(self):
        self.assert_code("fn f(a: own, b: own) { if { let c = a; } let d = b; drop d; }", """
            choose 4
            move c a
            flag a False
            free c
            move d b
            free d
            unless a 9
            free a
            flag a False
            leave
        """)

    def test_flags_are_of_each_function(self):
        self.assert_code(
            "fn f(a: own) { if { drop a; } } fn g(a: own) { drop a; }",
            """
            choose 3
            free a
            flag a False
            unless a 6
            free a
            flag a False
            leave
            """,
            """
            free a
            leave
            """,
        )

    def test_jumps_over_flags_to_blocks(self):
        self.assert_code("fn f(a: own) { loop { if { if { drop a; } else { read a; } break; } read a; } }", """
            choose 7
            choose 5
            free a
            flag a False
            jump 9
            read a
            jump 9
            read a
            jump 0
            unless a 12
            free a
            flag a False
            leave
        """)


if __name__ == "__main__":
    unittest.main()
