"""u1, u2: for each rule what breaks it and what just keeps it."""

import random
import unittest

import makers

from loancheck.errors import BadRule
from loancheck.graphs import graph
from loancheck.reading import parse_program, parse_text
from loancheck.rules import rule_fault, variables


def fault(text):
    return rule_fault(parse_text(text))


class Rules(unittest.TestCase):
    def assert_kept(self, text):
        self.assertEqual(fault(text), None, text)

    def assert_broken(self, text, function, statement, reason):
        self.assertEqual(fault(text), (function, statement, reason), text)


class Document(Rules):
    def test_examples(self):
        self.assert_broken("fn f(a: ref) { if { read a; } let b = mut a; }", 0, 2, "reference to shared a")
        self.assert_broken("fn f() -> own { let a = new; }", 0, 1, "missing result")

    def test_defined_in_their_file(self):
        self.assertEqual(rule_fault.__module__, "loancheck.rules")
        self.assertEqual(variables.__module__, "loancheck.rules")


class Functions(Rules):
    def test_five_and_six_functions(self):
        five = "fn a() { } fn b() { } fn c() { } fn d() { } fn e() { }"
        self.assert_kept("")
        self.assert_kept(five)
        self.assert_broken(five + "fn f() { }", 5, None, "too many functions")
        self.assert_broken(five + "fn f() { } fn g() { }", 5, None, "too many functions")

    def test_duplicate_functions(self):
        self.assert_broken("fn f() { } fn f() { }", 1, None, "duplicate function f")
        self.assert_broken("fn f() { } fn g() { } fn h() { } fn g() { } fn f() { }", 3, None, "duplicate function g")
        self.assert_broken("fn f() { } fn g(a: own) { } fn f(a: own) -> own { return a; }", 2, None,
                           "duplicate function f")

    def test_names_of_functions_and_variables_are_apart(self):
        self.assert_kept("fn f(f: own) { let g = f; read g; f(g); } fn g() { }")


class Heads(Rules):
    def test_three_and_four_parameters(self):
        self.assert_kept("fn f(a: own, b: own, c: own) { }")
        self.assert_broken("fn f(a: own, b: own, c: own, d: own) { }", 0, None, "too many parameters")
        self.assert_broken("fn f(a: own, b: own, c: own, d: own, e: own) { }", 0, None, "too many parameters")

    def test_duplicate_parameters(self):
        self.assert_broken("fn f(a: own, a: own) { }", 0, None, "duplicate variable a")
        self.assert_broken("fn f(a: own, b: own, a: ref) { }", 0, None, "duplicate variable a")
        self.assert_broken("fn g() { } fn f(b: ref, a: mut, a: ref) { }", 1, None, "duplicate variable a")

    def test_the_same_names_in_two_functions(self):
        self.assert_kept("fn f(a: own) { let b = new; } fn g(a: own, b: ref) { }")


class Lets(Rules):
    def test_duplicates_of_parameters_and_lets(self):
        self.assert_broken("fn f(a: own) { let a = new; }", 0, 0, "duplicate variable a")
        self.assert_broken("fn f() { let a = new; drop a; let a = new; }", 0, 2, "duplicate variable a")
        self.assert_kept("fn f() { let a = new; let b = new; }")

    def test_duplicates_in_other_blocks(self):
        self.assert_broken("fn f() { if { let a = new; } let a = new; }", 0, 2, "duplicate variable a")
        self.assert_broken("fn f() { if { let a = new; } else { let a = new; } }", 0, 2, "duplicate variable a")
        self.assert_broken("fn f() { loop { let a = new; break; } if { let a = new; } }", 0, 4, "duplicate variable a")
        self.assert_broken("fn f() { let a = new; loop { let a = new; } }", 0, 2, "duplicate variable a")

    def test_eight_and_nine_variables(self):
        eight = "".join(f"let {name} = new; " for name in "abcdefgh")
        self.assert_kept(f"fn f() {{ {eight} }}")
        self.assert_broken(f"fn f() {{ {eight} let i = new; }}", 0, 8, "too many variables")
        five = "".join(f"let {name} = new; " for name in "defgh")
        self.assert_kept(f"fn f(a: own, b: ref, c: mut) {{ {five} }}")
        self.assert_broken(f"fn f(a: own, b: ref, c: mut) {{ {five} let i = new; }}", 0, 5, "too many variables")

    def test_variables_out_of_reach_count_too(self):
        blocks = "".join("if { let " + name + " = new; } " for name in "abcdefgh")
        self.assert_kept(f"fn f() {{ {blocks} }}")
        self.assert_broken(f"fn f() {{ {blocks} let i = new; }}", 0, 16, "too many variables")

    def test_a_variable_is_not_in_reach_in_its_own_let(self):
        self.assert_broken("fn f() { let a = a; }", 0, 0, "unknown variable a")
        self.assert_broken("fn f() { let a = ref a; }", 0, 0, "unknown variable a")
        self.assert_broken("fn f() { let a = g(ref a); } fn g(a: ref) -> ref { return a; }", 0, 0,
                           "unknown variable a")


class Reach(Rules):
    uses = {
        "read x;": "x", "write x;": "x", "drop x;": "x", "let q = x;": "x", "let q = ref x;": "x",
        "let q = mut x;": "x", "x = new;": "x", "g(x);": "x", "g(ref x);": "x", "g(mut x);": "x", "return x;": "x",
        "let q = h(ref x);": "x", "p = x;": "x",
    }
    others = " fn g(a: own) { } fn h(a: ref) -> ref { return a; }"

    def test_each_use_of_what_was_never_declared(self):
        for use in self.uses:
            self.assert_broken("fn f(p: own) { " + use + " }" + self.others, 0, 0, "unknown variable x")

    def test_each_use_behind_the_block(self):
        for use in self.uses:
            for block, behind in (("if { let x = new; }", 2), ("if { } else { let x = new; }", 2),
                                  ("loop { let x = new; break; }", 3), ("if { if { let x = new; } }", 3)):
                text = f"fn f(p: own) {{ {block} {use} }}" + self.others
                self.assert_broken(text, 0, behind, "unknown variable x")

    def test_each_use_ahead_of_the_let(self):
        for use in self.uses:
            text = f"fn f(p: own) {{ {use} let x = new; }}" + self.others
            self.assert_broken(text, 0, 0, "unknown variable x")

    def test_the_other_block_of_an_if(self):
        self.assert_broken("fn f() { if { let x = new; } else { read x; } }", 0, 2, "unknown variable x")
        self.assert_broken("fn f() { if { read x; } else { let x = new; } }", 0, 1, "unknown variable x")

    def test_inner_blocks(self):
        self.assert_kept("fn f() { let x = new; if { read x; } else { write x; } loop { loop { read x; } } drop x; }")
        self.assert_broken("fn f() { if { let x = new; if { read x; } } read x; }", 0, 4, "unknown variable x")
        self.assert_broken("fn f() { loop { read x; let x = new; } }", 0, 1, "unknown variable x")

    def test_parameters_are_in_reach_in_the_whole_body(self):
        self.assert_kept("fn f(a: own, b: ref, c: mut) { read a; if { read b; } else { loop { write c; } } drop a; }")

    def test_behind_a_jump(self):
        self.assert_kept("fn f() { loop { break; let x = new; read x; } return; let y = new; drop y; }")
        self.assert_broken("fn f() { return; read x; }", 0, 1, "unknown variable x")

    def test_variables_of_another_function(self):
        self.assert_broken("fn f(a: own) { let b = new; } fn g() { read a; }", 1, 0, "unknown variable a")
        self.assert_broken("fn f(a: own) { let b = new; } fn g() { read b; }", 1, 0, "unknown variable b")


class Kinds(Rules):
    heads = "fn o(a: own) -> own { return a; } fn r(a: ref) -> ref { return a; } fn m(a: mut) -> mut { return a; }"

    def test_assignments(self):
        values = {
            "own": ("new", "p", "o(p)"),
            "ref": ("q", "ref p", "ref r", "r(q)", "r(ref r)"),
            "mut": ("r", "mut p", "mut r", "m(r)", "m(mut p)"),
        }
        for name, kind in (("p", "own"), ("q", "ref"), ("r", "mut")):
            for other, expressions in values.items():
                for expression in expressions:
                    expected = None if other == kind else (0, 0, f"wrong kind of {name}")
                    text = f"fn f(p: own, q: ref, r: mut) {{ {name} = {expression}; }} {self.heads}"
                    self.assertEqual(fault(text), expected, text)

    def test_kinds_of_lets(self):
        for expression in ("new", "p", "o(p)"):
            self.assert_kept(self.let_and_set(expression, "new"))
            self.assert_broken(self.let_and_set(expression, "q"), 0, 1, "wrong kind of x")
        for expression in ("q", "ref p", "ref r", "r(ref p)"):
            self.assert_kept(self.let_and_set(expression, "q"))
            self.assert_broken(self.let_and_set(expression, "r"), 0, 1, "wrong kind of x")
        for expression in ("r", "mut p", "mut r", "m(mut p)"):
            self.assert_kept(self.let_and_set(expression, "r"))
            self.assert_broken(self.let_and_set(expression, "q"), 0, 1, "wrong kind of x")

    def let_and_set(self, first, second):
        return f"fn f(p: own, q: ref, r: mut) {{ let x = {first}; x = {second}; }} {self.heads}"

    def test_references_to_shared(self):
        for use in ("let x = ref q;", "let x = mut q;", "q = ref q;", "q = mut q;", "r(ref q);", "r(mut q);",
                    "let x = r(ref q);", "q = r(mut q);"):
            self.assert_broken("fn f(q: ref) { " + use + " } " + self.heads, 0, 0, "reference to shared q")
        self.assert_kept("fn f(q: ref) { let x = q; r(x); x = q; x = r(q); }" + self.heads)

    def test_a_let_of_a_reference_to_shared(self):
        self.assert_broken("fn f(a: own) { let x = ref a; let y = ref x; }", 0, 1, "reference to shared x")
        self.assert_kept("fn f(a: own) { let x = mut a; let y = ref x; let z = mut x; }")

    def test_uses(self):
        self.assert_kept("fn f(p: own, q: ref, r: mut) { read p; read q; read r; write p; write r; drop p; }")
        self.assert_broken("fn f(p: own, q: ref, r: mut) { read q; write q; }", 0, 1, "write to shared q")
        self.assert_broken("fn f(p: own, q: ref, r: mut) { drop q; }", 0, 0, "drop of reference q")
        self.assert_broken("fn f(p: own, q: ref, r: mut) { drop r; }", 0, 0, "drop of reference r")
        self.assert_broken("fn f(p: own) { let x = ref p; write x; }", 0, 1, "write to shared x")
        self.assert_broken("fn f(p: own) { let x = mut p; drop x; }", 0, 1, "drop of reference x")


class Calls(Rules):
    def test_unknown_functions(self):
        for use in ("g();", "let x = g();", "a = g();", "g(a);", "g(b, b);"):
            self.assert_broken("fn f(a: own) { " + use + " }", 0, 0, "unknown function g")

    def test_functions_that_stand_behind_and_the_function_itself(self):
        self.assert_kept("fn f() { f(); g(); } fn g() { f(); }")

    def test_numbers_of_arguments(self):
        heads = "fn g() { } fn h(a: own, b: own) { }"
        self.assert_kept("fn f(a: own) { g(); h(a, a); }" + heads)
        self.assert_broken("fn f(a: own) { g(a); }" + heads, 0, 0, "wrong number of arguments")
        self.assert_broken("fn f(a: own) { h(); }" + heads, 0, 0, "wrong number of arguments")
        self.assert_broken("fn f(a: own) { h(a); }" + heads, 0, 0, "wrong number of arguments")
        self.assert_broken("fn f(a: own) { h(a, a, a); }" + heads, 0, 0, "wrong number of arguments")
        self.assert_broken("fn f(a: own) { h(a, a, ref a, mut a, a); }" + heads, 0, 0, "wrong number of arguments")

    def test_kinds_of_arguments(self):
        head = "fn g(a: own, b: ref, c: mut) { }"
        text = "fn f(p: own, q: ref, r: mut) { g(%s, %s, %s); }" + head
        self.assert_kept(text % ("p", "q", "r"))
        self.assert_kept(text % ("p", "ref p", "mut p"))
        self.assert_kept(text % ("p", "ref r", "mut r"))
        for bad in ("q", "r", "ref p", "mut p"):
            self.assert_broken(text % (bad, "q", "r"), 0, 0, "wrong kind of argument 0")
        for bad in ("p", "r", "mut p", "mut r"):
            self.assert_broken(text % ("p", bad, "r"), 0, 0, "wrong kind of argument 1")
        for bad in ("p", "q", "ref p", "ref r"):
            self.assert_broken(text % ("p", "q", bad), 0, 0, "wrong kind of argument 2")

    def test_the_first_wrong_argument_counts(self):
        head = "fn g(a: own, b: own, c: own) { }"
        self.assert_broken("fn f(p: own, q: ref) { g(p, q, q); }" + head, 0, 0, "wrong kind of argument 1")
        self.assert_broken("fn f(p: own, q: ref) { g(q, z, q); }" + head, 0, 0, "wrong kind of argument 0")
        self.assert_broken("fn f(p: own, q: ref) { g(p, z, q); }" + head, 0, 0, "unknown variable z")
        self.assert_broken("fn f(p: own, q: ref) { g(p, ref q, q); }" + head, 0, 0, "reference to shared q")

    def test_no_result(self):
        heads = "fn g() { } fn h(a: own) { } fn i() -> own { let a = new; return a; }"
        self.assert_kept("fn f(a: own) { g(); h(a); i(); let b = i(); b = i(); }" + heads)
        self.assert_broken("fn f(a: own) { let b = g(); }" + heads, 0, 0, "no result of g")
        self.assert_broken("fn f(a: own) { a = g(); }" + heads, 0, 0, "no result of g")
        self.assert_broken("fn f(a: own) { let b = h(a); }" + heads, 0, 0, "no result of h")

    def test_results_of_each_kind_may_be_left(self):
        for kind in ("own", "ref", "mut"):
            self.assert_kept("fn f(a: " + kind + ") { g(a); } fn g(a: " + kind + ") -> " + kind + " { return a; }")


class Jumps(Rules):
    def test_outside_of_loops(self):
        for word in ("break", "continue"):
            self.assert_broken("fn f() { " + word + "; }", 0, 0, "not in a loop")
            self.assert_broken("fn f() { if { " + word + "; } }", 0, 1, "not in a loop")
            self.assert_broken("fn f() { loop { } " + word + "; }", 0, 1, "not in a loop")
            self.assert_broken("fn f() { loop { loop { } } if { } else { " + word + "; } }", 0, 3, "not in a loop")
            self.assert_broken("fn f() { loop { } } fn g() { " + word + "; }", 1, 0, "not in a loop")

    def test_inside_of_loops(self):
        for word in ("break", "continue"):
            self.assert_kept("fn f() { loop { " + word + "; } }")
            self.assert_kept("fn f() { loop { if { " + word + "; } else { " + word + "; } } }")
            self.assert_kept("fn f() { loop { loop { } " + word + "; } }")


class Returns(Rules):
    def test_results(self):
        for kind, value in (("own", "p"), ("ref", "q"), ("mut", "r")):
            head = "fn f(p: own, q: ref, r: mut) -> " + kind
            for name, other in (("p", "own"), ("q", "ref"), ("r", "mut")):
                expected = None if other == kind else (0, 0, "wrong kind of result")
                self.assertEqual(fault(head + " { return " + name + "; }"), expected)
                expected = None if other == kind else (0, 1, "wrong kind of result")
                self.assertEqual(fault(head + " { if { return " + name + "; } return " + value + "; }"), expected)

    def test_a_result_where_there_is_none(self):
        self.assert_broken("fn f(a: own) { return a; }", 0, 0, "unexpected result")
        self.assert_broken("fn f(a: own) { loop { return a; } }", 0, 1, "unexpected result")
        self.assert_kept("fn f(a: own) { if { return; } loop { return; } return; }")

    def test_a_return_without_result(self):
        self.assert_broken("fn f(a: own) -> own { return; }", 0, 0, "missing result")
        self.assert_broken("fn f(a: own) -> own { if { return; } return a; }", 0, 1, "missing result")

    def test_the_last_statement_is_a_return(self):
        self.assert_kept("fn f(a: own) -> own { return a; }")
        self.assert_kept("fn f(a: own) -> own { return a; read a; return a; }")
        self.assert_broken("fn f(a: own) -> own { }", 0, 0, "missing result")
        self.assert_broken("fn f(a: own) -> own { return a; read a; }", 0, 2, "missing result")
        self.assert_broken("fn f(a: own) -> own { if { return a; } else { return a; } }", 0, 3, "missing result")
        self.assert_broken("fn f(a: own) -> own { loop { return a; } }", 0, 2, "missing result")
        self.assert_broken("fn f(a: own) -> own { read a; loop { if { read a; } } }", 0, 4, "missing result")

    def test_no_return_is_needed_without_a_result(self):
        self.assert_kept("fn f() { }")
        self.assert_kept("fn f(a: own) { loop { return; } }")


class Nodes(Rules):
    def test_60_and_61_nodes(self):
        self.assert_kept("fn f(a: own) { " + "read a;" * 58 + " }")
        self.assertEqual(len(graph(parse_text("fn f(a: own) { " + "read a;" * 58 + " }"), 0)), 60)
        self.assert_broken("fn f(a: own) { " + "read a;" * 59 + " }", 0, 59, "too many nodes")
        self.assert_kept("fn f() { " + "if{}" * 59 + " }")
        self.assert_broken("fn f() { " + "if{}" * 60 + " }", 0, 60, "too many nodes")

    def test_nodes_to_which_nothing_leads_count(self):
        self.assert_kept("fn f(a: ref) { return; " + "read a;" * 56 + " }")
        self.assert_broken("fn f(a: ref) { return; " + "read a;" * 57 + " }", 0, 58, "too many nodes")

    def test_nodes_of_a_function_with_a_result(self):
        self.assert_kept("fn f(a: own) -> own { " + "read a;" * 57 + " return a; }")
        self.assert_broken("fn f(a: own) -> own { " + "read a;" * 58 + " return a; }", 0, 59, "too many nodes")

    def test_a_statement_can_have_many_nodes(self):
        head = "fn g(a: ref, b: ref, c: ref) -> ref { return a; }"
        self.assert_kept("fn f(a: ref) { " + "g(a, a, a);" * 11 + "read a; read a; read a; }" + head)
        self.assert_broken("fn f(a: ref) { " + "g(a, a, a);" * 12 + " }" + head, 0, 12, "too many nodes")

    def test_of_a_later_function(self):
        self.assert_broken("fn g() { } fn f(a: own) { " + "read a;" * 59 + " }", 1, 59, "too many nodes")

    def test_deep_blocks(self):
        self.assert_kept("fn f() { " + "if{" * 59 + "}" * 59 + " }")


class Numbers(Rules):
    """The numbers of statements, told by a statement that breaks a rule."""

    def number_of(self, text):
        function, statement, reason = fault(text.replace("HERE", "read zz;"))
        self.assertEqual((function, reason), (0, "unknown variable zz"))
        return statement

    def test_in_a_row(self):
        self.assertEqual(self.number_of("fn f() { HERE }"), 0)
        self.assertEqual(self.number_of("fn f(a: own) { read a; read a; HERE }"), 2)

    def test_through_blocks(self):
        self.assertEqual(self.number_of("fn f() { if { HERE } }"), 1)
        self.assertEqual(self.number_of("fn f() { if { } HERE }"), 1)
        self.assertEqual(self.number_of("fn f() { if { } else { HERE } }"), 1)
        self.assertEqual(self.number_of("fn f() { if { if { } if { } } else { if { } HERE } }"), 4)
        self.assertEqual(self.number_of("fn f() { if { if { } if { } } else { if { } } HERE }"), 4)
        self.assertEqual(self.number_of("fn f() { loop { HERE } }"), 1)
        self.assertEqual(self.number_of("fn f() { loop { loop { break; } continue; } HERE }"), 4)
        self.assertEqual(self.number_of("fn f() { loop { if { break; } else { return; } HERE } }"), 4)

    def test_of_the_end(self):
        self.assert_broken("fn f() -> own { loop { if { } else { if { } } } if { } }", 0, 4, "missing result")

    def test_each_function_begins_anew(self):
        self.assert_broken("fn g() { if { } if { } } fn f() { if { } read zz; }", 1, 1, "unknown variable zz")
        self.assert_broken("fn g() { if { } if { } } fn f() -> own { }", 1, 0, "missing result")


class ParseProgram(Rules):
    def test_raises_what_rule_fault_tells(self):
        texts = (
            "fn a(){} fn b(){} fn c(){} fn d(){} fn e(){} fn f(){}",
            "fn f() { } fn f() { }",
            "fn g() { } fn f(a: own, a: own) { }",
            "fn g() { } fn f(a: own) { read a; read b; }",
            "fn f(a: own) -> own { if { } }",
            "fn f(a: own) { " + "read a;" * 59 + " }",
        )
        for text in texts:
            with self.assertRaises(BadRule) as caught:
                parse_program(text)
            bad = caught.exception
            self.assertEqual((bad.function, bad.statement, bad.reason), fault(text), text)

    def test_gives_the_program_otherwise(self):
        text = "fn f(a: own) -> own { if { read a; } return a; }"
        self.assertEqual(parse_program(text), parse_text(text))

    def test_texts_are_looked_at_first(self):
        with self.assertRaises(ValueError) as caught:
            parse_program("fn f() { read a; } fn f() { read ; }")
        self.assertEqual(caught.exception.token, 16)


class Variables(unittest.TestCase):
    def test_parameters_first_then_lets_in_the_order_of_the_text(self):
        text = (
            "fn f(z: ref, y: own) { if { let b = new; if { let c = mut b; } } else { let a = z; } loop { let x = ref y; "
            "break; } let w = y; } fn g() { }"
        )
        program = parse_program(text)
        self.assertEqual(variables(program, 0), (
            ("z", "ref"), ("y", "own"), ("b", "own"), ("c", "mut"), ("a", "ref"), ("x", "ref"), ("w", "own"),
        ))
        self.assertEqual(variables(program, 1), ())

    def test_kinds_of_each_expression(self):
        text = (
            "fn f(p: mut) { let a = new; let b = a; let c = ref b; let d = c; let e = mut b; let g = e; let h = two(p); }"
            "fn two(p: mut) -> ref { let q = ref p; return q; }"
        )
        self.assertEqual(variables(parse_program(text), 0), (
            ("p", "mut"), ("a", "own"), ("b", "own"), ("c", "ref"), ("d", "ref"), ("e", "mut"), ("g", "mut"),
            ("h", "ref"),
        ))

    def test_results_of_calls(self):
        for kind in ("own", "ref", "mut"):
            text = f"fn f(p: {kind}) {{ let x = g(p); let y = x; }} fn g(p: {kind}) -> {kind} {{ return p; }}"
            self.assertEqual(variables(parse_program(text), 0), (("p", kind), ("x", kind), ("y", kind)))


class Made(unittest.TestCase):
    def test_programs_that_are_made_by_the_rules_keep_them(self):
        chance = random.Random(3)
        for _ in range(300):
            program = makers.strict_program(chance)
            expected = None
            for number, function in enumerate(program):
                if len(graph(program, number)) > 60:
                    expected = number
                    break
            found = rule_fault(program)
            if expected is None:
                self.assertEqual(found, None, program)
            else:
                self.assertEqual((found[0], found[2]), (expected, "too many nodes"))


if __name__ == "__main__":
    unittest.main()
