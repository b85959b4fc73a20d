"""p1 to p4: papers that are made, papers that are right, and how the others are refused."""

import copy
import unittest

import searcher
from paperwork import adding, adding_everywhere, fault, with_outcomes, with_row, with_rows, without

from loancheck.check import check
from loancheck.errors import BadPaper, LoanError
from loancheck.graphs import graph
from loancheck.papers import check_paper, make_paper
from loancheck.reading import parse_program

FREE = ("none",)
OTHERS = ("#0", "#1", "#2", "#t", "#r")
PICK = " fn pick(a: ref, b: ref) -> ref { if { return a; } return b; }"


def free(*places):
    return tuple((place, FREE) for place in places)


class Papers(unittest.TestCase):
    def read(self, text):
        """Takes a program without problems, and the paper that is made, which is right."""
        self.program = parse_program(text)
        self.assertEqual(check(self.program), [])
        self.paper = make_paper(self.program)
        self.assertIsNone(fault(self.program, self.paper))

    def node(self, function, *operation):
        """The number of the one node of a function with an operation."""
        found = [node for node, (other, _) in enumerate(graph(self.program, function)) if other == operation]
        self.assertEqual(len(found), 1, operation)
        return found[0]

    def assert_right(self, paper):
        self.assertIsNone(fault(self.program, paper))
        self.assertIsNone(searcher.paper_fault(self.program, paper))

    def assert_fault(self, paper, function, node, *conditions):
        """Looks at the pair that is told, and, by the words of p2, at the conditions that fail at this node."""
        self.assertEqual(fault(self.program, paper), (function, node))
        if conditions:
            told = searcher.PaperReader(self.program, function, paper).faults()
            self.assertEqual(told[node], list(conditions))

    def assert_only_fault(self, paper, function, node, *conditions):
        """The same, where no condition fails anywhere else."""
        self.assert_fault(paper, function, node, *conditions)
        for number in range(len(self.program)):
            for other, failed in enumerate(searcher.PaperReader(self.program, number, paper).faults()):
                if (number, other) != (function, node):
                    self.assertEqual(failed, [], (number, other))


class Made(Papers):
    def test_in_full(self):
        self.read("fn f(a: ref, b: own) -> ref { if { drop b; } return a; }")
        loan = ("a", ("param", 0))
        lost = ("b", *OTHERS)
        four = free("b", "#0", "#1", "#2", "#t")
        self.assertEqual(self.paper, (((0,), (
            (OTHERS, (loan, *free("b", *OTHERS)), ("a", "b")),
            (OTHERS, (loan, *free("b", *OTHERS)), ("a", "b")),
            (lost, (loan, *free("b", *OTHERS)), ("a",)),
            (lost[:-1], (loan, *four, ("#r", ("param", 0))), ("#r",)),
            (lost[:-1], (loan, *four, ("#r", ("param", 0))), ("#r",)),
            (("a", "b", "#0", "#1", "#2", "#t"), (("a", FREE), *four, ("#r", ("param", 0))), ("#r",)),
        )),))

    def test_none_stands_behind_all_loans(self):
        self.read("fn f(a: ref) { let x = new; if { let r = a; if { r = ref x; } read r; } }")
        row = self.paper[0][1][self.node(0, "read", "r")]
        self.assertEqual([loan for place, loan in row[1] if place == "r"],
                         [("param", 0), ("node", self.node(0, "borrow", "#t", "x", "ref")), FREE])

    def test_outcomes(self):
        self.read("fn f(a: ref, b: ref) -> ref { if { return b; } return a; } fn g() { } fn h() { h(); }")
        self.assertEqual([pair[0] for pair in self.paper], [(0, 1), ("none",), ()])

    def test_none_for_nodes_that_no_run_reaches(self):
        self.read("fn f(a: ref) { loop { } } fn g(a: ref) { return; read a; }")
        self.assertEqual([row is None for row in self.paper[0][1]], [False, True, True])
        self.assertEqual([row is None for row in self.paper[1][1]], [False, False, True, True, True])

    def test_no_functions(self):
        self.assertEqual(make_paper(()), ())
        self.assertIsNone(check_paper((), ()))

    def test_a_program_with_problems_has_one_too(self):
        program = parse_program("fn f(a: own) { drop a; read a; }")
        lacks = (OTHERS, ("a", *OTHERS), ("a", *OTHERS), ("a", *OTHERS))
        holds = free("a", *OTHERS)
        later = (("a",), ("a",), (), ())
        self.assertEqual(make_paper(program), ((("none",), tuple(zip(lacks, (holds,) * 4, later))),))

    def test_what_is_told_is_new_and_nothing_is_changed(self):
        program = parse_program("fn f(a: ref) -> ref { return a; }")
        before = copy.deepcopy(program)
        paper = make_paper(program)
        kept = copy.deepcopy(paper)
        self.assertEqual(make_paper(program), paper)
        self.assertIsNone(check_paper(program, paper))
        self.assertEqual((program, paper), (before, kept))


class RightJustIfThereAreNoProblems(unittest.TestCase):
    def assert_pair(self, text, pair):
        program = parse_program(text)
        self.assertEqual(check(program) == [], pair is None)
        self.assertEqual(fault(program, make_paper(program)), pair)

    def test_without_problems(self):
        self.assert_pair("", None)
        self.assert_pair("fn f() { } fn g() { f(); }", None)
        self.assert_pair("fn f() { let x = new; let r = ref x; read x; read r; drop x; }", None)

    def test_the_node_of_the_first_problem(self):
        self.assert_pair("fn f(a: own) { drop a; read a; }", (0, 1))
        self.assert_pair("fn main() { let x = new; let r = ref x; if { write x; } read r; }", (0, 3))
        self.assert_pair("fn g() { } fn f(a: own) { read a; drop a; read a; read a; }", (1, 2))

    def test_a_problem_that_no_run_reaches_is_none(self):
        self.assert_pair("fn f(a: own) { drop a; return; read a; }", None)


class Lengths(Papers):
    def setUp(self):
        self.read("fn f() { } fn g(a: own) { }")

    def test_a_function_without_a_pair(self):
        self.assert_fault(self.paper[:1], 1, None)
        self.assert_fault((), 0, None)

    def test_rows_too_few_and_too_many(self):
        for number in (0, 1):
            rows = self.paper[number][1]
            self.assert_fault(with_rows(self.paper, number, rows[:-1]), number, None)
            self.assert_fault(with_rows(self.paper, number, rows + (None,)), number, None)
            self.assert_fault(with_rows(self.paper, number, ()), number, None)

    def test_too_many_pairs(self):
        self.assert_fault(self.paper + self.paper[1:], 2, None)
        self.assert_fault(self.paper + ((("none",), ()), ((), ())), 2, None)
        self.assertEqual(fault((), (((), ()),)), (0, None))

    def test_the_first_function_counts(self):
        wrong = with_rows(with_rows(self.paper, 0, ()), 1, ())
        self.assert_fault(wrong, 0, None)
        self.assert_fault(with_rows(self.paper, 1, ()) + self.paper, 1, None)
        self.assert_fault(with_rows(self.paper, 0, ())[:1], 0, None)

    def test_ahead_of_all_nodes(self):
        wrong = with_row(self.paper, 0, 0, None)
        self.assert_fault(wrong, 0, 0)
        self.assert_fault(wrong[:1], 1, None)
        self.assert_fault(with_rows(wrong, 1, ()), 1, None)
        self.assert_fault(wrong + self.paper, 2, None)

    def test_what_is_raised(self):
        with self.assertRaises(BadPaper) as caught:
            check_paper(self.program, ())
        self.assertEqual(caught.exception.node, (0, None))
        self.assertIsInstance(caught.exception, LoanError)


class First(Papers):
    """1: node 0."""

    def setUp(self):
        self.read("fn f(a: ref, b: own) -> ref { drop b; return a; } fn g(a: mut) { write a; }")

    def test_it_has_no_row(self):
        self.assert_only_fault(with_row(self.paper, 0, 0, None), 0, 0, 1)
        self.assert_only_fault(with_row(self.paper, 1, 0, None), 1, 0, 1)

    def test_a_place_without_a_value_is_left_out(self):
        for place in OTHERS:
            self.assert_only_fault(without(self.paper, 0, 0, "lacks", place), 0, 0, 1)

    def test_a_pair_is_left_out(self):
        self.assert_only_fault(without(self.paper, 0, 0, "holds", ("a", ("param", 0))), 0, 0, 1)
        self.assert_only_fault(without(self.paper, 1, 0, "holds", ("a", ("param", 0))), 1, 0, 1)
        for place in ("b", *OTHERS):
            self.assert_only_fault(without(self.paper, 0, 0, "holds", (place, FREE)), 0, 0, 1)


class Second(Papers):
    """2: what follows behind each node; the node is told, not its follower."""

    def behind(self, *operation):
        """The node with an operation of the first function, and its follower."""
        node = self.node(0, *operation)
        self.assertEqual(len(graph(self.program, 0)[node][1]), 1)
        return node, graph(self.program, 0)[node][1][0]

    def assert_needs(self, operation, part, *items):
        node, follower = self.behind(*operation)
        for item in items:
            self.assert_only_fault(without(self.paper, 0, follower, part, item), 0, node, 2)

    def test_the_follower_has_no_row(self):
        self.read("fn f(a: own) { if { read a; } write a; }")
        for node, follower in ((0, 1), (0, 2), (2, 3), (3, 4)):
            self.assert_fault(with_row(self.paper, 0, follower, None), 0, node, 2)

    def test_new(self):
        self.read("fn f(a: ref) { let x = new; read a; }")
        self.assert_needs(("new", "x"), "lacks", "#0", "#t")
        self.assert_needs(("new", "x"), "holds", ("a", ("param", 0)), ("x", FREE), ("#t", FREE))

    def test_move(self):
        self.read("fn f(a: mut, b: own) { let x = new; let r = mut x; let s = r; let t = a; let y = b; write s; write t; read y; }")
        self.assert_needs(("move", "s", "r"), "lacks", "r", "#t")
        self.assert_needs(("move", "s", "r"), "holds", ("s", ("node", 1)), ("s", FREE), ("r", FREE), ("a", ("param", 0)))
        self.assert_needs(("move", "t", "a"), "holds", ("t", ("param", 0)), ("a", FREE), ("s", ("node", 1)))
        self.assert_needs(("move", "y", "b"), "holds", ("y", FREE), ("b", FREE))

    def test_copy(self):
        self.read("fn f(a: ref) { let x = new; let r = ref x; let s = r; let t = a; read s; read t; read r; }")
        self.assert_needs(("copy", "s", "r"), "holds", ("s", ("node", 1)), ("s", FREE), ("r", ("node", 1)), ("r", FREE))
        self.assert_needs(("copy", "t", "a"), "holds", ("t", ("param", 0)), ("a", ("param", 0)))

    def test_borrow(self):
        self.read("fn f(a: mut) { let x = new; let r = mut x; let s = mut r; let t = ref a; write s; read t; }")
        self.assert_needs(("borrow", "r", "x", "mut"), "holds", ("r", ("node", 1)), ("r", FREE))
        self.assert_needs(("borrow", "s", "r", "mut"), "holds",
                          ("s", ("node", 2)), ("s", ("node", 1)), ("s", FREE), ("r", ("node", 1)))
        self.assert_needs(("borrow", "t", "a", "ref"), "holds", ("t", ("node", 3)), ("t", ("param", 0)))

    def test_drop_clear_and_end(self):
        self.read("fn f(a: own, b: mut, c: mut) { let x = new; let r = ref x; drop x; b = c; a = new; }")
        self.assert_needs(("drop", "x"), "lacks", "x", "#t")
        self.assert_needs(("drop", "x"), "holds", ("x", FREE), ("r", FREE), ("b", ("param", 1)))
        self.assert_needs(("clear", "b"), "lacks", "b")
        self.assert_needs(("clear", "b"), "holds", ("b", FREE), ("#t", ("param", 2)))
        self.assert_needs(("move", "b", "#t"), "holds", ("b", ("param", 2)), ("#t", FREE))
        self.assert_needs(("clear", "a"), "lacks", "a")
        self.assert_needs(("end", "c"), "lacks", "c")
        self.assert_needs(("end", "b"), "holds", ("b", FREE))

    def test_a_loan_that_is_gone_need_not_be_told(self):
        for gone in (("drop", "x"), ("move", "y", "x"), ("clear", "x")):
            statement = {"drop": "drop x;", "move": "let y = x;", "clear": "x = new;"}[gone[0]]
            self.read("fn f() { let x = new; let r = ref x; " + statement + " }")
            node, follower = self.behind(*gone)
            self.assertIn(("r", ("node", 1)), self.paper[0][1][node][1])
            self.assertNotIn(("r", ("node", 1)), self.paper[0][1][follower][1])
            self.assert_right(adding(self.paper, 0, node, "holds", ("r", ("node", 1))))

    def test_read_write_loop_choose(self):
        self.read("fn f(a: mut) { loop { read a; write a; if { break; } } }")
        for operation in (("loop",), ("read", "a"), ("write", "a")):
            self.assert_needs(operation, "lacks", "#0")
            self.assert_needs(operation, "holds", ("a", ("param", 0)), ("#t", FREE))
        choose = self.node(0, "choose")
        self.assert_fault(without(self.paper, 0, 4, "lacks", "#0"), 0, choose, 2)
        # The follower of the first node is reached from the choose, too.
        self.assertEqual(graph(self.program, 0)[choose], (("choose",), (4, 0)))

    def test_call(self):
        self.read("fn f(a: ref) { let x = new; let r = pick(a, ref x); read r; }" + PICK)
        call = ("call", "pick", "r", 2)
        self.assert_needs(call, "lacks", "#0", "#1")
        self.assert_needs(call, "holds", ("#0", FREE), ("#1", FREE), ("a", ("param", 0)))
        self.assert_needs(call, "holds", ("r", ("param", 0)), ("r", ("node", 2)), ("r", FREE))

    def test_call_with_the_outcome_none(self):
        self.read("fn f(a: ref) { let x = g(a); let r = h(a); drop x; } fn g(a: ref) -> own { let b = new; return b; }"
                  " fn h(a: ref) -> ref { let r = h(a); return r; }")
        self.assert_needs(("call", "g", "x", 1), "holds", ("x", FREE))
        self.read("fn f(a: ref) { g(a); read a; } fn g(a: ref) { }")
        self.assert_needs(("call", "g", None, 1), "holds", ("#0", FREE))

    def test_by_the_outcomes_of_the_paper(self):
        """An outcome is told that is left out for a caller."""
        self.read("fn f() { let x = new; let y = new; let r = pick(ref x, ref y); read r; }" + PICK)
        call = self.node(0, "call", "pick", "r", 2)
        self.assertEqual(self.paper[1][0], (0, 1))
        wrong = self.paper
        for outcomes in ((0,), (1,), ()):
            rows = searcher.Searcher(self.program, 0, {"f": ("none",), "pick": outcomes}).paper_rows()
            self.assert_fault(with_rows(wrong, 0, rows), 0, call, 2)
        rows = searcher.Searcher(self.program, 0, {"f": ("none",), "pick": (0, 1, "none")}).paper_rows()
        self.assert_right(with_rows(wrong, 0, rows))


class Third(Papers):
    """3: the outcomes at the exits."""

    def test_a_number_is_left_out(self):
        self.read(PICK + " fn f() { }")
        self.assertEqual([graph(self.program, 0)[node][0] for node in (4, 8)], [("exit",), ("exit",)])
        self.assert_only_fault(with_outcomes(self.paper, 0, 1), 0, 4, 3)
        self.assert_only_fault(with_outcomes(self.paper, 0, 0), 0, 8, 3)
        self.assert_fault(with_outcomes(self.paper, 0), 0, 4, 3)

    def test_none_is_left_out(self):
        self.read("fn f() { } fn g() -> own { let x = new; return x; }")
        self.assert_only_fault(with_outcomes(self.paper, 0), 0, 0, 3)
        self.assert_only_fault(with_outcomes(self.paper, 1), 1, 3, 3)
        self.assert_only_fault(with_outcomes(self.paper, 1, 0, 1), 1, 3, 3)

    def test_a_function_whose_outcomes_are_none_at_all_by_the_paper(self):
        self.read("fn f(a: own) { if { g(); read a; } drop a; } fn g() { loop { if { break; } } }")
        call = self.node(0, "call", "g", None, 0)
        paper = with_outcomes(self.paper, 1)
        # Nothing is asked behind the call, and the exit of the function itself tells that the paper is wrong.
        self.assert_only_fault(paper, 1, 2, 3)
        self.assert_only_fault(with_row(paper, 0, call + 1, None), 1, 2, 3)
        self.assert_fault(with_row(self.paper, 0, call + 1, None), 0, call, 2)

    def test_a_function_that_never_comes_back(self):
        self.read("fn f(a: own) { if { drop a; g(); read a; } drop a; } fn g() { loop { } }")
        call = self.node(0, "call", "g", None, 0)
        self.assertEqual(self.paper[1][0], ())
        self.assertIsNone(self.paper[0][1][call + 1])
        # By the outcomes of this paper a run goes on behind the call.
        self.assert_fault(with_outcomes(self.paper, 1, "none"), 0, call, 2)


class Fourth(Papers):
    """4: the places that are used later."""

    def test_what_a_node_uses(self):
        self.read("fn f(a: own, b: ref, c: mut) -> own { let r = b; read b; write c; g(a, c); let x = new; return x; }"
                  " fn g(a: own, b: mut) { let c = a; drop c; }")
        for operation, place in (
            (("copy", "r", "b"), "b"), (("read", "b"), "b"), (("write", "c"), "c"), (("move", "#0", "a"), "a"),
            (("call", "g", None, 2), "#0"), (("call", "g", None, 2), "#1"), (("move", "#r", "x"), "x"), (("exit",), "#r"),
        ):
            node = self.node(0, *operation)
            self.assert_fault(without(self.paper, 0, node, "later", place), 0, node, 4)
        self.assert_fault(without(self.paper, 1, 0, "later", "a"), 1, 0, 4)
        self.assert_fault(without(self.paper, 1, 1, "later", "c"), 1, 1, 4)

    def test_what_a_follower_tells(self):
        self.read("fn f(a: mut) { let x = new; if { read x; } write a; }")
        for node in range(3):
            self.assert_fault(without(self.paper, 0, node, "later", "a"), 0, node, 4)
        self.assert_fault(without(self.paper, 0, 1, "later", "x"), 0, 1, 4)
        self.assert_only_fault(without(self.paper, 0, 0, "later", "a"), 0, 0, 4)

    def test_not_behind_what_puts_something_into_it_or_clears_or_ends_it(self):
        self.read("fn f(a: own) { let x = new; x = a; drop x; let y = new; }")
        for node, place in ((0, "x"), (3, "x"), (self.node(0, "new", "y"), "y")):
            self.assertNotIn(place, self.paper[0][1][node][2])
        ends = self.node(0, "end", "x")
        self.assert_right(adding(self.paper, 0, ends + 1, "later", "x"))
        self.assert_fault(adding(self.paper, 0, ends, "later", "x"), 0, ends - 1, 4)

    def test_round_a_loop(self):
        self.read("fn f(a: ref) { loop { read a; } }")
        self.assert_fault(without(self.paper, 0, 0, "later", "a"), 0, 0, 4)
        self.assert_only_fault(without(self.paper, 0, 1, "later", "a"), 0, 1, 4)

    def test_behind_a_call_that_has_no_outcome_by_the_paper(self):
        self.read("fn f(a: ref) { g(); read a; } fn g() { g(); }")
        rows = list(self.paper[0][1])
        self.assertEqual([row is None for row in rows], [False, True, True, True])
        # Rows for what no run reaches: what is used later there is not asked of the call.
        rows[3] = (("a", *OTHERS), free("a", *OTHERS), ())
        rows[2] = (OTHERS, (("a", ("param", 0)), *free(*OTHERS)), ())
        rows[1] = (OTHERS, (("a", ("param", 0)), *free(*OTHERS)), ("a",))
        self.assertEqual(rows[0][2], ())
        paper = with_outcomes(with_rows(self.paper, 0, rows), 0, "none")
        self.assert_right(paper)
        self.assert_only_fault(without(paper, 0, 1, "later", "a"), 0, 1, 4)


class Fifth(Papers):
    """5: values that are lacking, and conflicts."""

    def test_a_variable_that_is_used_is_lacking(self):
        self.read("fn f(a: own) { if { read a; } drop a; }")
        paper = adding(self.paper, 0, 2, "lacks", "a")
        self.assert_only_fault(paper, 0, 2, 5)
        paper = adding(adding(self.paper, 0, 1, "lacks", "a"), 0, 2, "lacks", "a")
        self.assert_fault(paper, 0, 1, 5)

    def test_a_place_that_is_no_variable(self):
        self.read("fn f(a: ref) -> ref { g(a); return a; } fn g(a: ref) { }")
        self.assert_right(adding(self.paper, 0, 1, "lacks", "#0"))
        self.assert_right(adding(adding(self.paper, 0, 3, "lacks", "#r"), 0, 4, "lacks", "#r"))

    def test_a_pair_that_is_told(self):
        self.read("fn f() { let x = new; let y = new; let r = ref x; let s = ref y; write x; read s; }")
        write = self.node(0, "write", "x")
        pair = ("s", ("node", 2))
        paper = adding(adding(self.paper, 0, write, "holds", pair), 0, write + 1, "holds", pair)
        self.assert_fault(paper, 0, write, 5)
        self.assert_only_fault(adding(paper, 0, self.node(0, "end", "s"), "holds", pair), 0, write, 5)

    def test_a_use_that_is_told(self):
        self.read("fn f() { let x = new; let r = ref x; write x; drop x; }")
        write = self.node(0, "write", "x")
        # The node itself does not count, nor does what the place held ahead of the borrow.
        paper = adding(self.paper, 0, write, "later", "r")
        self.assert_right(paper)
        self.assert_only_fault(adding(paper, 0, write + 1, "later", "r"), 0, write, 5)

    def test_a_shared_loan_at_a_read(self):
        self.read("fn f() { let x = new; let r = ref x; read x; let s = ref x; read r; read s; }")
        self.assert_right(adding(self.paper, 0, self.node(0, "read", "r"), "later", "r"))
        self.read("fn f() { let x = new; let r = mut x; read x; }")
        read = self.node(0, "read", "x")
        paper = adding(adding(self.paper, 0, read, "later", "r"), 0, read + 1, "later", "r")
        self.assert_fault(paper, 0, read, 5)

    def test_the_node_puts_something_into_the_place(self):
        self.read("fn f() { let x = new; let y = new; loop { let r = mut x; write r; let s = ref y; read s; } }")
        borrow = self.node(0, "borrow", "r", "x", "mut")
        pair = ("r", ("node", borrow))
        # Were the pair there ahead of the borrow, it would be no conflict: r is filled by the borrow.
        paper = self.paper
        for node in range(borrow + 1):
            paper = adding(paper, 0, node, "holds", pair)
        self.assertIn("r", paper[0][1][borrow + 1][2])
        self.assert_right(paper)

    def test_ends_and_clears_of_owners(self):
        self.read("fn f(a: ref) { let r = a; if { let x = new; let s = ref x; read s; } read r; }")
        ends = self.node(0, "end", "x")
        borrow = self.node(0, "borrow", "s", "x", "ref")
        paper = adding(self.paper, 0, ends, "holds", ("r", ("node", borrow)))
        self.assert_only_fault(paper, 0, ends, 5)

    def test_loans_of_no_borrow_are_no_conflicts(self):
        self.read("fn f() { let x = new; let y = new; let r = ref y; write x; read r; }")
        write = self.node(0, "write", "x")
        for loan in (("node", 0), ("node", write), ("node", 50), ("node", 2), ("param", 0), FREE):
            paper = self.paper
            for node in range(write, self.node(0, "end", "r") + 1):
                paper = adding(paper, 0, node, "holds", ("r", loan))
            self.assert_right(paper)


class More(Papers):
    """A paper that tells more than is so, and is right all the same."""

    def test_more_lacks(self):
        self.read("fn f(a: own) { if { read a; } }")
        self.assert_right(adding(self.paper, 0, 2, "lacks", "a"))
        self.assert_right(adding(self.paper, 0, 3, "lacks", "a"))
        self.assert_fault(adding(self.paper, 0, 0, "lacks", "a"), 0, 0, 2)

    def test_more_holds(self):
        self.read("fn f(a: ref) { let x = new; let r = ref x; read a; read r; }")
        for loan in (("param", 1), ("param", 0), ("node", 1), ("node", 7), ("node", 200), ("param", 77)):
            self.assert_right(adding_everywhere(self.paper, 0, "holds", ("#2", loan)))
            self.assert_right(adding_everywhere(self.paper, 0, "holds", ("a", loan)))

    def test_more_later(self):
        self.read("fn f(a: ref, b: own) { read a; drop b; }")
        self.assert_right(adding_everywhere(self.paper, 0, "later", "a", "#0", "#1", "#2", "#t", "#r"))
        self.assert_right(adding_everywhere(self.paper, 0, "later", "a", "b"))

    def test_more_outcomes(self):
        self.read("fn f(a: ref) -> ref { return a; } fn g(a: ref) { }")
        self.assert_right(with_outcomes(with_outcomes(self.paper, 0, 0, "none"), 1, 0, "none"))
        self.assert_right(with_outcomes(self.paper, 0, 0, 1, 2, "none"))

    def test_more_outcomes_of_a_function_that_is_called(self):
        self.read("fn f(a: own) { let x = new; let r = h(ref a, ref x); drop x; } fn h(a: ref, b: ref) -> ref { return a; }")
        more = {"f": ("none",), "h": (0, 1)}
        paper = with_outcomes(self.paper, 1, 0, 1)
        self.assert_fault(paper, 0, self.node(0, "call", "h", "r", 2), 2)
        self.assert_right(with_rows(paper, 0, searcher.Searcher(self.program, 0, more).paper_rows()))
        # It tells of a problem that no run commits.
        self.read("fn f(a: own) { let x = new; let r = h(ref a, ref x); drop x; read r; }"
                  " fn h(a: ref, b: ref) -> ref { return a; }")
        paper = with_outcomes(self.paper, 1, 0, 1)
        paper = with_rows(paper, 0, searcher.Searcher(self.program, 0, more).paper_rows())
        self.assert_only_fault(paper, 0, self.node(0, "drop", "x"), 5)

    def test_rows_for_nodes_that_no_run_reaches(self):
        self.read("fn f(a: own) { return; drop a; return; }")
        self.assertEqual([row is None for row in self.paper[0][1]], [False, False, True, True, True])
        rows = self.paper[0][1]
        behind = (("a", *OTHERS), free("a", *OTHERS), ())
        self.assert_right(with_rows(self.paper, 0, rows[:4] + (behind,)))
        self.assert_right(with_rows(self.paper, 0, rows[:3] + (behind, behind)))
        ahead = (OTHERS, free("a", *OTHERS), ("a",))
        self.assert_right(with_rows(self.paper, 0, rows[:2] + (ahead, behind, behind)))
        # They keep to the conditions, too.
        self.assert_fault(with_rows(self.paper, 0, rows[:2] + (ahead, None, behind)), 0, 2, 2)
        self.assert_fault(with_rows(self.paper, 0, rows[:2] + (ahead, ((), (), ()), behind)), 0, 2, 2)
        self.assert_fault(with_rows(self.paper, 0, rows[:2] + ((*ahead[:2], ()), behind, behind)), 0, 2, 4)
        self.assert_fault(with_rows(self.paper, 0, rows[:2] + ((("a", *OTHERS), *ahead[1:]), behind, behind)), 0, 2, 5)
        self.assert_right(with_rows(self.paper, 0, rows[:2] + (None, None, ((), (), ()))))
        self.assert_fault(with_rows(self.paper, 0, rows[:4] + (((), (("#r", ("param", 0)),), ()),)), 0, 4, 3)

    def test_all_that_may_be(self):
        """All pairs that no condition forbids."""
        self.read("fn f(a: ref, b: own) { let x = new; drop b; drop x; }")
        paper = self.paper
        loans = [("param", 0), ("param", 1), ("node", 0), ("node", 9), FREE]
        for place in ("a", "b", "x", *OTHERS):
            paper = adding_everywhere(paper, 0, "holds", *[(place, loan) for loan in loans])
        paper = adding_everywhere(paper, 0, "later", "a", "b", "x", *OTHERS)
        paper = with_outcomes(paper, 0, 0, 1, "none")
        self.assert_right(paper)


class Several(Papers):
    """Of several breaches the first one counts: functions in order, nodes ascending."""

    def setUp(self):
        self.read("fn f(a: own) { read a; drop a; } fn g(a: ref) -> ref { read a; return a; }")

    def test_at_two_nodes(self):
        one = without(self.paper, 0, 0, "later", "a")
        two = without(self.paper, 0, 1, "later", "a")
        self.assert_fault(one, 0, 0)
        self.assert_fault(two, 0, 1)
        self.assert_fault(without(one, 0, 1, "later", "a"), 0, 0)
        self.assert_fault(without(without(self.paper, 1, 3, "later", "#r"), 1, 1, "later", "a"), 1, 1)
        self.assert_fault(without(without(self.paper, 1, 3, "later", "#r"), 1, 2, "later", "#r"), 1, 3)

    def test_in_two_functions(self):
        wrong = with_outcomes(self.paper, 1)
        self.assert_fault(wrong, 1, 3)
        self.assert_fault(without(wrong, 0, 3, "lacks", "a"), 0, 2)
        self.assert_fault(without(wrong, 1, 2, "holds", ("#r", ("param", 0))), 1, 1)

    def test_for_2_and_4_the_node_ahead_is_told(self):
        self.assert_fault(without(self.paper, 0, 2, "lacks", "a"), 0, 1, 2)
        self.assert_fault(adding(self.paper, 0, 2, "later", "#t"), 0, 1, 4)

    def test_two_conditions_at_one_node(self):
        wrong = without(without(self.paper, 0, 0, "lacks", "#0"), 0, 0, "later", "a")
        self.assert_fault(wrong, 0, 0, 1, 4)


if __name__ == "__main__":
    unittest.main()
