"""s2, s4, s5, c10 to c12: complete runs and others, wrong steps, and the problems that runs commit."""

import unittest

from runners import bad_step, problems, steps

from loancheck.errors import BadRun, LoanError
from loancheck.reading import parse_program
from loancheck.runs import replay

# The nodes: 0 choose, 1 drop a, 2 loop, 3 choose, 4 read b, 5 end b, 6 end a, 7 exit.
BRANCHES = "fn f(a: own, b: ref) { if { drop a; } loop { if { break; } } read b; }"
# The nodes: 0 copy #0 a, 1 copy #1 b, 2 call, 3 copy #r x, 4 to 6 ends, 7 exit.
CALLING = "fn f(a: ref, b: ref) -> ref { let x = g(a, b); return x; } fn g(a: ref, b: ref) -> ref { return a; }"
ALL = {"f": (0, "none"), "g": (0, 1, "none")}


class Complete(unittest.TestCase):
    def assert_replay(self, text, told, outcomes, expected):
        self.assertEqual(replay(parse_program(text), 0, outcomes, steps(*told)), expected)

    def test_document(self):
        program = parse_program("fn f(a: own) { drop a; read a; }")
        self.assertEqual(replay(program, 0, {}, ((0, None), (1, None), (2, None), (3, None))),
                         (True, [("f", 1, "no value", "a", None)], 0, 1, 1, 0))

    def test_the_example_of_the_beginning(self):
        program = parse_program("fn main() { let x = new; let r = ref x; if { write x; } read r; }")
        run = ((0, None), (1, None), (2, None), (3, None), (4, None))
        self.assertEqual(replay(program, 0, {}, run), (False, [("main", 3, "conflict", "x", 1)], 1, 0, 0, 0))

    def test_no_steps(self):
        self.assert_replay("fn f() { }", (), {}, (False, [], 0, 0, 0, 0))
        self.assert_replay("fn f(a: own, b: ref, c: own) { }", (), {}, (False, [], 0, 2, 0, 0))

    def test_only_an_exit_completes_a_run(self):
        self.assert_replay("fn f() { }", (0,), {}, (True, [], 0, 0, 0, 0))
        run = (0, 1, 2, 3, 2, 3, 4, 5, 6, 7)
        for many in range(len(run) + 1):
            found = replay(parse_program(BRANCHES), 0, {}, steps(*run[:many]))
            self.assertEqual(found[:2], (many == len(run), []))

    def test_a_call_as_the_last_step(self):
        self.assert_replay(CALLING, (0, 1, 2), ALL, (False, [], 0, 0, 0, 0))
        self.assert_replay(CALLING, (0, 1, 2), {"g": ()}, (False, [], 0, 0, 0, 0))

    def test_each_outcome_of_a_call(self):
        for outcome in (0, 1, "none"):
            run = (0, 1, (2, outcome), 3, 4, 5, 6, 7)
            self.assert_replay(CALLING, run, ALL, (True, [], 0, 0, 0, 0))

    def test_a_function_is_told_by_its_number(self):
        program = parse_program("fn f() { } fn g() { let x = new; }")
        self.assertEqual(replay(program, 1, {}, ((0, None), (1, None), (2, None))), (True, [], 1, 0, 1, 0))

    def test_what_is_told_is_new_and_nothing_is_changed(self):
        program = parse_program(CALLING)
        outcomes = {"f": (0,), "g": (0, 1)}
        run = steps(0, 1, (2, 1), 3)
        first = replay(program, 0, outcomes, run)
        first[1].append("more")
        self.assertEqual(replay(program, 0, outcomes, run), (False, [], 0, 0, 0, 0))
        self.assertEqual(outcomes, {"f": (0,), "g": (0, 1)})
        self.assertEqual(run, ((0, None), (1, None), (2, 1), (3, None)))
        self.assertEqual(program, parse_program(CALLING))


class WrongSteps(unittest.TestCase):
    def test_the_error(self):
        with self.assertRaises(BadRun) as caught:
            replay(parse_program("fn f() { }"), 0, {}, ((1, None),))
        self.assertEqual(caught.exception.step, 0)
        self.assertIsInstance(caught.exception, LoanError)

    def test_a_first_node_that_is_not_0(self):
        for node in (1, 4, 7, 8, -1, 99):
            self.assertEqual(bad_step(BRANCHES, (node,)), 0)
            self.assertEqual(bad_step(BRANCHES, (node, node)), 0)

    def test_a_node_that_is_no_follower(self):
        self.assertEqual(bad_step(BRANCHES, (0, 3)), 1)
        self.assertEqual(bad_step(BRANCHES, (0, 0)), 1)
        self.assertEqual(bad_step(BRANCHES, (0, 2, 3, 1)), 3)
        self.assertEqual(bad_step(BRANCHES, (0, 2, -1)), 2)
        self.assertEqual(bad_step(BRANCHES, (0, 99)), 1)

    def test_nothing_follows_an_exit(self):
        self.assertEqual(bad_step("fn f() { }", (0, 0)), 1)
        self.assertEqual(bad_step("fn f() { let x = new; }", (0, 1, 2, 0)), 3)
        self.assertEqual(bad_step("fn f() { let x = new; }", (0, 1, 2, 3)), 3)

    def test_an_outcome_that_is_none_of_the_function(self):
        for outcome in (1, 2, 3, -1, "some"):
            self.assertEqual(bad_step(CALLING, (0, 1, (2, outcome), 3), {"g": (0, "none")}), 2)
        self.assertEqual(bad_step(CALLING, (0, 1, (2, "none"), 3), {"g": (0, 1)}), 2)
        self.assertIsNone(bad_step(CALLING, (0, 1, (2, 1), 3), {"g": (0, 1)}))

    def test_outcomes_are_those_that_are_told_for_this_very_function(self):
        self.assertEqual(bad_step(CALLING, (0, 1, (2, "none"), 3), {"f": ("none",), "g": (0,)}), 2)
        self.assertIsNone(bad_step(CALLING, (0, 1, (2, 0), 3), {"f": (), "g": (0,)}))

    def test_no_outcome_at_a_call_that_is_not_the_last_step(self):
        self.assertEqual(bad_step(CALLING, (0, 1, 2, 3), ALL), 2)
        self.assertEqual(bad_step(CALLING, (0, 1, 2, 3, 4), ALL), 2)

    def test_an_outcome_at_a_call_that_is_the_last_step(self):
        for outcome in (0, 1, "none", 7):
            self.assertEqual(bad_step(CALLING, (0, 1, (2, outcome)), ALL), 2)

    def test_an_outcome_elsewhere(self):
        self.assertEqual(bad_step(CALLING, ((0, 0), 1), ALL), 0)
        self.assertEqual(bad_step(CALLING, (0, (1, "none"), (2, 0)), ALL), 1)
        self.assertEqual(bad_step(BRANCHES, ((0, "none"),)), 0)
        self.assertEqual(bad_step(BRANCHES, (0, 2, (3, 0))), 2)
        self.assertEqual(bad_step("fn f() { }", ((0, "none"),)), 0)

    def test_a_function_without_outcomes(self):
        self.assertIsNone(bad_step(CALLING, (0, 1, 2), {"g": ()}))
        for outcome in (None, 0, "none"):
            self.assertEqual(bad_step(CALLING, (0, 1, (2, outcome), 3), {"g": ()}), 2)

    def test_the_first_of_two_counts(self):
        self.assertEqual(bad_step(CALLING, ((0, 1), 7), ALL), 0)
        self.assertEqual(bad_step(CALLING, (0, 2, (1, 0)), ALL), 1)
        self.assertEqual(bad_step(CALLING, (0, 1, (2, 2), 9), ALL), 2)
        self.assertEqual(bad_step(CALLING, (0, 1, 2, 9), ALL), 2)
        self.assertEqual(bad_step(CALLING, (1, (1, 0)), ALL), 0)
        self.assertEqual(bad_step(CALLING, (0, 1, (2, 1), 9, (10, 0)), ALL), 3)

    def test_wrong_steps_count_ahead_of_problems(self):
        self.assertEqual(bad_step("fn f(a: own) { drop a; read a; }", (0, 1, 3)), 2)


class NoValue(unittest.TestCase):
    def test_behind_a_drop(self):
        for use in ("read a;", "write a;", "drop a;", "let x = a;", "let x = ref a;", "let x = mut a;"):
            text = "fn f(a: own) { drop a; " + use + " }"
            self.assertEqual(problems(text, (0, 1)), [(1, "no value", "a", None)], use)

    def test_behind_a_move(self):
        self.assertEqual(problems("fn f(a: own) { let x = a; read a; }", (0, 1)), [(1, "no value", "a", None)])
        self.assertEqual(problems("fn f(a: mut) { let x = a; write a; }", (0, 1)), [(1, "no value", "a", None)])
        self.assertEqual(problems("fn f(a: ref) { let x = a; read a; read x; }", (0, 1, 2)), [])

    def test_a_copy_uses_its_source(self):
        text = "fn f(a: own) { let r = ref a; loop { let s = r; r = r; } }"
        self.assertEqual(problems(text, (0, 1, 2, 3, 4, 5)), [])

    def test_neither_clear_nor_end_use_anything(self):
        self.assertEqual(problems("fn f(a: own) { drop a; a = new; }", (0, 1, 2, 3, 4, 5)), [])
        self.assertEqual(problems("fn f(a: own) { drop a; }", (0, 1, 2)), [])

    def test_what_gets_a_value_again(self):
        self.assertEqual(problems("fn f(a: own) { drop a; a = new; read a; }", (0, 1, 2, 3, 4)), [])

    def test_what_is_moved_without_a_value_has_one_all_the_same(self):
        text = "fn f(a: own) { drop a; let x = a; read x; let y = x; }"
        self.assertEqual(problems(text, (0, 1, 2, 3)), [(1, "no value", "a", None)])

    def test_an_argument_without_a_value_is_a_problem_of_the_variable(self):
        text = "fn f(a: own) { drop a; g(a); } fn g(a: own) { }"
        outcomes = {"g": ("none",)}
        self.assertEqual(problems(text, (0, 1, (2, "none"), 3, 4), outcomes), [(1, "no value", "a", None)])

    def test_other_places_make_none(self):
        text = "fn f() -> own { g(); let a = g(); drop a; return a; } fn g() -> own { let a = new; return a; }"
        run = ((0, "none"), 1, (2, "none"), 3, 4, 5, 6)
        self.assertEqual(problems(text, run, {"g": ("none",)}), [(4, "no value", "a", None)])

    def test_by_nodes_and_each_once(self):
        text = "fn f(a: own) { drop a; loop { read a; if { read a; } else { } } }"
        self.assertEqual(problems(text, (0, 1, 2, 3, 1, 2, 3, 4, 1, 2)),
                         [(2, "no value", "a", None), (4, "no value", "a", None)])

    def test_only_what_the_run_does(self):
        text = "fn f(a: own) { if { drop a; } read a; }"
        self.assertEqual(problems(text, (0, 2)), [])
        self.assertEqual(problems(text, (0, 1, 2)), [(2, "no value", "a", None)])
        self.assertEqual(problems(text, (0, 1)), [])


class Conflicts(unittest.TestCase):
    def assert_use(self, reference, use, expected):
        """A use of x between a reference to it and a read through that; expected tells whether it is a conflict."""
        text = "fn f(x: own) { let r = " + reference + " x; " + use + " read r; }"
        self.assertEqual(problems(text, (0, 1, 2)), [(1, "conflict", "x", 0)] if expected else [], text)
        self.assertEqual(problems(text, (0, 1)), [], text)

    def test_reads(self):
        self.assert_use("ref", "read x;", False)
        self.assert_use("mut", "read x;", True)

    def test_writes(self):
        self.assert_use("ref", "write x;", True)
        self.assert_use("mut", "write x;", True)

    def test_references(self):
        self.assert_use("ref", "let s = ref x;", False)
        self.assert_use("mut", "let s = ref x;", True)
        self.assert_use("ref", "let s = mut x;", True)
        self.assert_use("mut", "let s = mut x;", True)

    def test_drops_and_moves(self):
        for reference in ("ref", "mut"):
            self.assert_use(reference, "drop x;", True)
            self.assert_use(reference, "let s = x;", True)

    def test_clear_of_an_owner(self):
        text = "fn f(x: own) { let r = ref x; x = new; read r; }"
        self.assertEqual(problems(text, (0, 1, 2, 3, 4)), [(2, "conflict", "x", 0)])
        self.assertEqual(problems(text, (0, 1, 2, 3)), [])

    def test_end_of_an_owner(self):
        text = "fn f(a: ref) { let r = a; if { let x = new; r = ref x; } read r; }"
        self.assertEqual(problems(text, (0, 1, 2, 3, 4, 5, 6, 7)), [(6, "conflict", "x", 3)])
        self.assertEqual(problems(text, (0, 1, 2, 3, 4, 5, 6)), [])

    def test_the_result(self):
        text = "fn f() -> ref { let x = new; let r = ref x; return r; }"
        self.assertEqual(problems(text, (0, 1, 2, 3, 4, 5)), [(4, "conflict", "x", 1)])
        self.assertEqual(problems(text, (0, 1, 2, 3, 4)), [])

    def test_clear_and_end_of_a_reference(self):
        text = "fn f(x: mut) { let r = ref x; x = mut x; read r; }"
        self.assertEqual(problems(text, (0, 1, 2, 3, 4)), [(1, "conflict", "x", 0)])
        text = "fn f(a: ref, m: mut) { let r = a; if { let x = m; r = ref x; } read r; }"
        self.assertEqual(problems(text, (0, 1, 2, 3, 4, 5, 6, 7)), [])

    def test_a_copy_is_no_access(self):
        text = "fn f(a: own) { let r = mut a; let s = ref r; let t = s; read s; write r; }"
        self.assertEqual(problems(text, (0, 1, 2, 3, 4)), [])

    def test_a_move_of_an_exclusive_reference_is_one(self):
        text = "fn f(a: mut) { let r = ref a; let s = a; read r; }"
        self.assertEqual(problems(text, (0, 1, 2)), [(1, "conflict", "a", 0)])

    def test_what_a_reference_was_made_through(self):
        text = "fn f(x: own) { let r = mut x; let s = mut r; write x; write s; }"
        self.assertEqual(problems(text, (0, 1, 2, 3)), [(2, "conflict", "x", 0)])
        text = "fn f(x: own) { let r = mut x; let s = mut r; write r; write s; }"
        self.assertEqual(problems(text, (0, 1, 2, 3)), [(2, "conflict", "r", 1)])

    def test_loans_of_others_make_none(self):
        text = "fn f(x: own, y: own) { let r = mut x; write y; read r; }"
        self.assertEqual(problems(text, (0, 1, 2)), [])

    def test_what_a_call_hands_back(self):
        text = ("fn main() { let x = new; let y = new; let r = first(mut x, mut y); read y; write r; }"
                "fn first(a: mut, b: mut) -> mut { if { return a; } return b; }")
        outcomes = {"first": (0, 1, "none")}
        self.assertEqual(problems(text, (0, 1, 2, 3, (4, 1), 5, 6), outcomes), [(5, "conflict", "y", 3)])
        self.assertEqual(problems(text, (0, 1, 2, 3, (4, 0), 5, 6), outcomes), [])
        self.assertEqual(problems(text, (0, 1, 2, 3, (4, "none"), 5, 6), outcomes), [])

    def test_arguments(self):
        text = "fn f(x: own) { g(mut x, ref x); } fn g(a: mut, b: ref) { }"
        self.assertEqual(problems(text, (0, 1, 2)), [(1, "conflict", "x", 0)])
        self.assertEqual(problems(text, (0, 1)), [])

    def test_both_kinds_at_one_node(self):
        text = "fn f(x: own) { drop x; let r = mut x; write x; read r; }"
        self.assertEqual(problems(text, (0, 1, 2, 3)),
                         [(1, "no value", "x", None), (2, "no value", "x", None), (2, "conflict", "x", 1)])

    def test_several_loans_at_one_node_in_order(self):
        text = "fn f(x: own) { let r = ref x; let s = ref x; let t = ref x; write x; read t; read r; read s; }"
        self.assertEqual(problems(text, (0, 1, 2, 3, 4, 5, 6)), [(3, "conflict", "x", maker) for maker in range(3)])
        self.assertEqual(problems(text, (0, 1, 2, 3, 4, 5)), [(3, "conflict", "x", 0), (3, "conflict", "x", 2)])
        self.assertEqual(problems(text, (0, 1, 2, 3, 4)), [(3, "conflict", "x", 2)])

    def test_several_nodes_in_order(self):
        text = "fn f(x: own) { let r = mut x; loop { read x; write x; if { } else { write r; } } }"
        run = (0, 1, 2, 3, 4, 5, 1, 2, 3, 4, 5)
        self.assertEqual(problems(text, run), [(2, "conflict", "x", 0), (3, "conflict", "x", 0)])
        self.assertEqual(problems(text, run[:5]), [])

    def test_ten_and_more_are_in_the_order_of_numbers(self):
        text = ("fn f(x: own) { let a = ref x; read x; read x; read x; read x; read x; read x; read x; read x;"
                " let b = ref x; let c = ref x; write x; read a; read c; read b; }")
        self.assertEqual(problems(text, range(15)), [(11, "conflict", "x", maker) for maker in (0, 9, 10)])

    def test_several_places_that_hold_the_same_loan(self):
        text = "fn f(x: own) { let r = ref x; let s = r; let t = s; write x; read r; read s; read t; }"
        self.assertEqual(problems(text, (0, 1, 2, 3, 4, 5, 6)), [(3, "conflict", "x", 0)])
        self.assertEqual(problems(text, (0, 1, 2, 3, 4)), [(3, "conflict", "x", 0)])


class UsedLater(unittest.TestCase):
    def test_used_behind_something_that_is_put_into_it(self):
        text = "fn f(x: own, y: own) { let r = ref x; write x; r = ref y; read r; }"
        self.assertEqual(problems(text, (0, 1, 2, 3, 4, 5)), [])

    def test_used_ahead_of_that(self):
        text = "fn f(x: own, y: own) { let r = ref x; write x; read r; r = ref y; read r; }"
        self.assertEqual(problems(text, (0, 1, 2, 3, 4, 5, 6)), [(1, "conflict", "x", 0)])

    def test_used_behind_its_end(self):
        text = "fn f(x: own) { loop { let r = mut x; write r; write x; } }"
        self.assertEqual(problems(text, (0, 1, 2, 3, 4, 0, 1, 2, 3, 4, 0, 1, 2)), [])

    def test_used_by_the_node_that_puts_something_into_it_or_clears_it(self):
        text = "fn f(x: own, y: mut) { let r = mut x; write x; let s = r; }"
        self.assertEqual(problems(text, (0, 1, 2)), [(1, "conflict", "x", 0)])
        text = "fn f(x: own) { let r = mut x; write x; g(r); } fn g(a: mut) { }"
        self.assertEqual(problems(text, (0, 1, 2)), [(1, "conflict", "x", 0)])

    def test_used_by_a_call_that_is_the_last_step(self):
        text = "fn f(x: own) { g(ref x, x); } fn g(a: ref, b: own) { }"
        self.assertEqual(problems(text, (0, 1, 2)), [(1, "conflict", "x", 0)])

    def test_used_ahead_of_the_access_only(self):
        text = "fn f(x: own) { let r = mut x; write r; write x; }"
        self.assertEqual(problems(text, (0, 1, 2, 3, 4, 5)), [])

    def test_used_in_another_round(self):
        text = "fn f(x: own) { let r = mut x; loop { if { write x; } else { write r; } } }"
        self.assertEqual(problems(text, (0, 1, 2, 3)), [])
        self.assertEqual(problems(text, (0, 1, 2, 3, 1, 2, 4)), [(3, "conflict", "x", 0)])
        self.assertEqual(problems(text, (0, 1, 2, 4, 1, 2, 3)), [])
        self.assertEqual(problems(text, (0, 1, 2, 3, 1, 2, 3, 1, 2, 4)), [(3, "conflict", "x", 0)])

    def test_a_place_that_gets_the_loan_from_another(self):
        text = "fn f(x: own) { let r = ref x; let s = r; write x; read s; }"
        self.assertEqual(problems(text, (0, 1, 2, 3)), [(2, "conflict", "x", 0)])
        text = "fn f(x: own) { let r = mut x; let s = r; write x; read s; }"
        self.assertEqual(problems(text, (0, 1, 2, 3)), [(2, "conflict", "x", 0)])

    def test_a_node_that_puts_something_into_what_holds_the_loan(self):
        text = "fn f(x: own) { let r = mut x; r = mut x; write r; }"
        self.assertEqual(problems(text, (0, 1, 2, 3, 4)), [])
        text = "fn f(x: own) { let r = mut x; let s = ref r; r = mut x; write r; read s; }"
        self.assertEqual(problems(text, (0, 1, 2, 3, 4, 5, 6)), [(2, "conflict", "x", 0)])

    def test_loans_that_are_gone(self):
        text = "fn f(x: own) { let r = ref x; drop x; x = new; write x; read r; }"
        self.assertEqual(problems(text, (0, 1, 2, 3, 4, 5, 6)), [(1, "conflict", "x", 0)])


if __name__ == "__main__":
    unittest.main()
