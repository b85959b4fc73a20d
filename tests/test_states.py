"""s1, c8, c9: the state at the beginning, and the state behind each kind of node, row by row of the table."""

import unittest

from loancheck.graphs import graph
from loancheck.reading import parse_program
from loancheck.states import after, first_state

# The nodes: 0 new x, 1 move y a, 2 copy z b, 3 borrow r x, 4 borrow s x, 5 borrow #t y, 6 clear r, 7 move r #t,
# 8 move #t c, 9 clear s, 10 move s #t, 11 read x, 12 write s, 13 drop x, 14 loop, 15 choose, 16 to 23 ends, 24 exit.
PLAIN = """fn f(a: own, b: ref, c: mut) {
  let x = new; let y = a; let z = b; let r = ref x; let s = mut x; r = ref y; s = c;
  read x; write s; drop x; loop { break; } if { }
}"""
# The nodes: 0 borrow r c, 1 borrow s c, 2 borrow t r, 3 move d c.
MOVING = "fn f(c: mut) { let r = mut c; let s = mut c; let t = ref r; let d = c; }"
CALLS = """fn none() { } fn one(p: ref) -> ref { return p; } fn two(p: ref, q: mut) -> mut { return q; }
fn three(p: own, q: ref, r: mut) { }
fn f(a: own, b: ref, c: mut) {
  none(); let x = one(b); let y = two(b, c); x = one(ref a); one(x); three(a, x, y);
}"""


def param(number):
    return ("param", number)


def node(number):
    return ("node", number)


def pairs(*rows):
    """Pairs (place, loan), told as (place, loan, loan ..)."""
    return tuple((row[0], loan) for row in rows for loan in row[1:])


class States(unittest.TestCase):
    text = PLAIN
    function = 0

    def assert_after(self, number, operation, ahead, behind, outcome=None):
        """States are told as (places in one text, pairs)."""
        program = parse_program(self.text)
        self.assertEqual(graph(program, self.function)[number][0], operation)
        state = (tuple(ahead[0].split()), ahead[1])
        expected = (tuple(behind[0].split()), behind[1])
        self.assertEqual(after(program, self.function, state, number, outcome), expected)


class First(unittest.TestCase):
    def assert_first(self, text, expected):
        self.assertEqual(first_state(parse_program(text), 0), expected)

    def test_no_parameters(self):
        self.assert_first("fn f() { let x = new; }", ((), ()))

    def test_one_of_each_kind(self):
        self.assert_first("fn f(a: own) { let x = a; }", (("a",), ()))
        self.assert_first("fn f(a: ref) { let x = a; }", (("a",), (("a", ("param", 0)),)))
        self.assert_first("fn f(a: mut) { let x = a; }", (("a",), (("a", ("param", 0)),)))

    def test_the_number_of_a_loan_is_that_of_its_parameter(self):
        self.assert_first("fn f(z: own, b: ref, a: mut) { }",
                          (("z", "b", "a"), (("b", ("param", 1)), ("a", ("param", 2)))))
        self.assert_first("fn f(c: mut, b: own, a: ref) { }",
                          (("c", "b", "a"), (("c", ("param", 0)), ("a", ("param", 2)))))

    def test_of_any_function(self):
        program = parse_program("fn f(a: ref) { } fn g() { } fn h(x: own, y: mut) { }")
        self.assertEqual(first_state(program, 0), (("a",), (("a", ("param", 0)),)))
        self.assertEqual(first_state(program, 1), ((), ()))
        self.assertEqual(first_state(program, 2), (("x", "y"), (("y", ("param", 1)),)))


class New(States):
    def test_gets_a_value_in_its_place_of_the_order(self):
        self.assert_after(0, ("new", "x"), ("", ()), ("x", ()))
        self.assert_after(0, ("new", "x"), ("a c y #0", ()), ("a c x y #0", ()))

    def test_holds_nothing_whatever_it_held(self):
        ahead = pairs(("b", param(1)), ("x", param(0), node(3)), ("y", node(4)))
        self.assert_after(0, ("new", "x"), ("b x y", ahead), ("b x y", pairs(("b", param(1)), ("y", node(4)))))
        self.assert_after(0, ("new", "x"), ("", pairs(("x", node(3)))), ("x", ()))

    def test_loans_of_the_place_stay(self):
        ahead = pairs(("r", node(3)), ("s", node(4)))
        self.assert_after(0, ("new", "x"), ("r s", ahead), ("x r s", ahead))


class Move(States):
    def test_a_value(self):
        self.assert_after(1, ("move", "y", "a"), ("a b", pairs(("b", param(1)))), ("b y", pairs(("b", param(1)))))

    def test_what_the_source_held(self):
        ahead = pairs(("a", param(0), param(2), node(3), node(10)), ("b", param(1)))
        behind = pairs(("b", param(1)), ("y", param(0), param(2), node(3), node(10)))
        self.assert_after(1, ("move", "y", "a"), ("a b", ahead), ("b y", behind))
        self.assert_after(7, ("move", "r", "#t"), ("r #t", pairs(("#t", node(5)))), ("r", pairs(("r", node(5)))))

    def test_a_source_without_a_value(self):
        self.assert_after(1, ("move", "y", "a"), ("", ()), ("y", ()))
        self.assert_after(1, ("move", "y", "a"), ("b", pairs(("a", node(4)))), ("b y", pairs(("y", node(4)))))

    def test_what_the_target_held_is_lost(self):
        ahead = pairs(("a", param(0)), ("y", param(1), node(3)))
        self.assert_after(1, ("move", "y", "a"), ("a y", ahead), ("y", pairs(("y", param(0)))))
        self.assert_after(1, ("move", "y", "a"), ("a y", pairs(("y", node(3)))), ("y", ()))

    def test_loans_of_the_target_stay(self):
        ahead = pairs(("r", node(5)), ("s", node(3), node(5)))
        self.assert_after(1, ("move", "y", "a"), ("a r s", ahead), ("y r s", ahead))

    def test_the_temporary_place_has_no_loans(self):
        ahead = pairs(("s", node(3), node(4)), ("#0", node(5)), ("#t", param(2)))
        behind = pairs(("s", param(2)), ("#0", node(5)))
        self.assert_after(10, ("move", "s", "#t"), ("s #0 #t", ahead), ("s #0", behind))


class MoveAndLoans(States):
    text = MOVING

    def test_loans_of_the_source_are_gone_from_all_places(self):
        ahead = pairs(("c", param(0)), ("r", param(0), node(0)), ("s", node(0), node(1)), ("#0", node(1)))
        behind = pairs(("r", param(0)), ("d", param(0)))
        self.assert_after(3, ("move", "d", "c"), ("c r s #0", ahead), ("r s d #0", behind))

    def test_loans_of_others_are_not(self):
        ahead = pairs(("r", node(0), node(2)), ("t", node(1), node(2)))
        self.assert_after(3, ("move", "d", "c"), ("r t", ahead), ("r t d", pairs(("r", node(2)), ("t", node(2)))))

    def test_the_target_does_not_get_them_either(self):
        ahead = pairs(("c", param(0), node(0), node(1), node(2)), ("d", node(1)))
        self.assert_after(3, ("move", "d", "c"), ("c d", ahead), ("d", pairs(("d", param(0), node(2)))))

    def test_they_are_gone_too_if_the_source_has_no_value(self):
        self.assert_after(3, ("move", "d", "c"), ("r", pairs(("r", node(0), node(1)))), ("r d", ()))

    def test_loans_that_no_node_makes_stay(self):
        ahead = pairs(("r", param(2), node(0), node(3), node(50)))
        self.assert_after(3, ("move", "d", "c"), ("c", ahead), ("d", pairs(("r", param(2), node(3), node(50)))))


class Copy(States):
    def test_both_hold_the_same(self):
        ahead = pairs(("b", param(1), node(5)), ("z", param(0), node(3)))
        behind = pairs(("b", param(1), node(5)), ("z", param(1), node(5)))
        self.assert_after(2, ("copy", "z", "b"), ("b", ahead[:2]), ("b z", behind))
        self.assert_after(2, ("copy", "z", "b"), ("b z", ahead), ("b z", behind))

    def test_a_source_without_a_value(self):
        self.assert_after(2, ("copy", "z", "b"), ("", ()), ("z", ()))
        self.assert_after(2, ("copy", "z", "b"), ("z", pairs(("z", node(3)))), ("z", ()))
        held = pairs(("b", param(2)), ("z", param(2)))
        self.assert_after(2, ("copy", "z", "b"), ("", held[:1]), ("z", held))

    def test_no_loan_is_gone(self):
        held = pairs(("r", node(3), node(4), node(5)))
        self.assert_after(2, ("copy", "z", "b"), ("b r", held), ("b z r", held))


class Borrow(States):
    def test_its_own_loan(self):
        self.assert_after(3, ("borrow", "r", "x", "ref"), ("x", ()), ("x r", pairs(("r", node(3)))))
        self.assert_after(4, ("borrow", "s", "x", "mut"), ("x", ()), ("x s", pairs(("s", node(4)))))

    def test_and_what_the_source_holds(self):
        ahead = pairs(("x", param(1), node(2), node(10)))
        behind = ahead + pairs(("r", param(1), node(2), node(3), node(10)))
        self.assert_after(3, ("borrow", "r", "x", "ref"), ("x", ahead), ("x r", behind))

    def test_a_loan_that_the_source_holds_already_is_told_once(self):
        ahead = pairs(("x", node(3), node(4)))
        self.assert_after(3, ("borrow", "r", "x", "ref"), ("x", ahead), ("x r", ahead + pairs(("r", node(3), node(4)))))

    def test_a_source_without_a_value(self):
        self.assert_after(5, ("borrow", "#t", "y", "ref"), ("", ()), ("#t", pairs(("#t", node(5)))))

    def test_what_the_target_held_is_lost(self):
        ahead = pairs(("r", param(1), node(5)))
        self.assert_after(3, ("borrow", "r", "x", "ref"), ("x r", ahead), ("x r", pairs(("r", node(3)))))

    def test_the_same_loan_in_other_places_stays_and_so_do_all_others_of_the_source(self):
        ahead = pairs(("z", node(3)), ("s", node(3), node(4)))
        behind = pairs(("z", node(3)), ("r", node(3)), ("s", node(3), node(4)))
        self.assert_after(3, ("borrow", "r", "x", "ref"), ("x z s", ahead), ("x z r s", behind))


class Clearing(States):
    def test_drop(self):
        ahead = pairs(("b", param(1)), ("x", param(0)), ("r", node(3), node(5)), ("s", node(4)))
        behind = pairs(("b", param(1)), ("r", node(5)))
        self.assert_after(13, ("drop", "x"), ("b x r s", ahead), ("b r s", behind))
        self.assert_after(13, ("drop", "x"), ("b r s", ahead), ("b r s", behind))

    def test_clear(self):
        ahead = pairs(("r", param(0), node(3)), ("s", node(3)))
        self.assert_after(6, ("clear", "r"), ("r s #t", ahead), ("s #t", pairs(("s", node(3)))))
        self.assert_after(6, ("clear", "r"), ("", ()), ("", ()))

    def test_end(self):
        ahead = pairs(("y", param(1)), ("z", node(4)), ("r", node(3), node(5)), ("#r", node(3)))
        behind = pairs(("y", param(1)), ("r", node(5)))
        self.assert_after(20, ("end", "x"), ("x y z r #r", ahead), ("y z r #r", behind))
        self.assert_after(19, ("end", "y"), ("x y", ahead), ("x", pairs(("z", node(4)), ("r", node(3)), ("#r", node(3)))))
        self.assert_after(16, ("end", "s"), ("", pairs(("s", node(3)))), ("", ()))

    def test_clear_of_an_owner_and_drop_of_the_temporary_place(self):
        self.text = "fn g() -> own { let a = new; return a; } fn f(a: own) { let r = ref a; a = new; g(); read r; }"
        self.function = 1
        ahead = pairs(("a", param(0)), ("r", param(1), node(0)))
        self.assert_after(2, ("clear", "a"), ("a r #t", ahead), ("r #t", pairs(("r", param(1)))))
        self.assert_after(5, ("drop", "#t"), ("a #t", pairs(("a", node(0)), ("#t", param(0)))), ("a", pairs(("a", node(0)))))


class Calls(States):
    text = CALLS
    function = 4

    def test_without_arguments(self):
        held = pairs(("b", param(1)), ("#0", param(2)))
        self.assert_after(0, ("call", "none", None, 0), ("b #0", held), ("b #0", held), "none")

    def test_with_a_target(self):
        ahead = pairs(("b", param(1)), ("#0", param(1), node(5)), ("#1", node(9)))
        call = ("call", "one", "x", 1)
        self.assert_after(2, call, ("b #0 #1", ahead),
                          ("b x #1", pairs(("b", param(1)), ("x", param(1), node(5)), ("#1", node(9)))), 0)
        self.assert_after(2, call, ("b #0 #1", ahead), ("b x #1", pairs(("b", param(1)), ("#1", node(9)))), "none")

    def test_each_outcome(self):
        ahead = pairs(("#0", param(1)), ("#1", param(2), node(4)))
        call = ("call", "two", "y", 2)
        self.assert_after(5, call, ("#0 #1", ahead), ("y", pairs(("y", param(1)))), 0)
        self.assert_after(5, call, ("#0 #1", ahead), ("y", pairs(("y", param(2), node(4)))), 1)
        self.assert_after(5, call, ("#0 #1", ahead), ("y", ()), "none")

    def test_the_target_loses_what_it_held(self):
        ahead = pairs(("y", param(0), node(3)), ("#0", param(1)))
        self.assert_after(5, ("call", "two", "y", 2), ("y #0 #1", ahead), ("y", pairs(("y", param(1)))), 0)
        self.assert_after(5, ("call", "two", "y", 2), ("y #0 #1", ahead), ("y", ()), 1)
        self.assert_after(5, ("call", "two", "y", 2), ("y #0 #1", ahead), ("y", ()), "none")

    def test_the_temporary_place_as_target(self):
        ahead = pairs(("x", node(6)), ("#0", node(6)))
        self.assert_after(7, ("call", "one", "#t", 1), ("a x #0", ahead),
                          ("a x #t", pairs(("x", node(6)), ("#t", node(6)))), 0)

    def test_three_arguments_without_a_target(self):
        ahead = pairs(("x", node(6)), ("#0", param(0)), ("#1", node(6)), ("#2", param(2)), ("#t", param(1)))
        behind = pairs(("x", node(6)), ("#t", param(1)))
        for outcome in ("none", 0, 1, 2):
            self.assert_after(16, ("call", "three", None, 3), ("x #0 #1 #2 #t", ahead), ("x #t", behind), outcome)

    def test_arguments_without_values(self):
        self.assert_after(5, ("call", "two", "y", 2), ("", ()), ("y", ()), 1)
        self.assert_after(5, ("call", "two", "y", 2), ("#0", pairs(("#1", node(3)))), ("y", pairs(("y", node(3)))), 1)

    def test_no_loan_is_gone(self):
        held = pairs(("x", node(6)), ("y", node(6)))
        self.assert_after(16, ("call", "three", None, 3), ("x y #0 #1 #2", held), ("x y", held), "none")


class Others(States):
    def test_nothing_changes(self):
        held = pairs(("a", node(3)), ("r", param(0), node(3), node(4)), ("#2", node(10)), ("#r", param(2)))
        for number, operation in ((11, ("read", "x")), (12, ("write", "s")), (14, ("loop",)), (15, ("choose",)),
                                  (24, ("exit",))):
            self.assert_after(number, operation, ("", ()), ("", ()))
            self.assert_after(number, operation, ("a x r s #2 #r", held), ("a x r s #2 #r", held))
            self.assert_after(number, operation, ("b", held), ("b", held))


class Order(States):
    def test_all_places_in_order(self):
        everything = "a b c x y z r s #0 #1 #2 #t #r"
        self.assert_after(11, ("read", "x"), (everything, ()), (everything, ()))
        self.assert_after(0, ("new", "x"), (everything, ()), (everything, ()))
        self.assert_after(13, ("drop", "x"), (everything, ()), ("a b c y z r s #0 #1 #2 #t #r", ()))

    def test_parameters_ahead_of_nodes_and_numbers_ascending(self):
        held = (param(0), param(1), param(2), node(2), node(5), node(9), node(10), node(24))
        ahead = pairs(("a", *held), ("b", *held))
        self.assert_after(1, ("move", "y", "a"), ("a b", ahead), ("b y", pairs(("b", *held), ("y", *held))))
        behind = pairs(("a", *held), ("b", *held), ("z", *held))
        self.assert_after(2, ("copy", "z", "b"), ("a b", ahead), ("a b z", behind))
        self.assert_after(3, ("borrow", "r", "x", "ref"), ("x", pairs(("x", param(2), node(10)))),
                          ("x r", pairs(("x", param(2), node(10)), ("r", param(2), node(3), node(10)))))

    def test_the_state_ahead_is_not_changed(self):
        program = parse_program(PLAIN)
        state = (("a", "b"), (("b", ("param", 1)),))
        after(program, 0, state, 1, None)
        self.assertEqual(state, (("a", "b"), (("b", ("param", 1)),)))


if __name__ == "__main__":
    unittest.main()
