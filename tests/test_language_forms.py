"""t2, c4, c5: each form of the language, and the shapes that are read."""

import random
import unittest

import makers

from loancheck.reading import parse_program, parse_text


def body(text):
    """The statements that are read as the body of a function."""
    return parse_text("fn f() { " + text + " }")[0][3]


class Programs(unittest.TestCase):
    def test_the_empty_text(self):
        self.assertEqual(parse_text(""), ())
        self.assertEqual(parse_program(""), ())

    def test_functions_in_order(self):
        self.assertEqual(parse_text("fn g() { } fn f() { }"), (("g", (), None, ()), ("f", (), None, ())))

    def test_parameters(self):
        self.assertEqual(parse_text("fn f() { }"), (("f", (), None, ()),))
        self.assertEqual(parse_text("fn f(a: own) { }"), (("f", (("a", "own"),), None, ()),))
        self.assertEqual(parse_text("fn f(a: own, b: ref, c: mut) { }"), (
            ("f", (("a", "own"), ("b", "ref"), ("c", "mut")), None, ()),
        ))

    def test_results(self):
        for kind in ("own", "ref", "mut"):
            self.assertEqual(parse_text(f"fn f() -> {kind} {{ }}"), (("f", (), kind, ()),))

    def test_the_text_of_the_written_form(self):
        text = (
            "fn f(a: own, b: ref) -> mut {\n  let x = ref y;\n  x = g(a, mut b);\n  if {\n    drop a;\n"
            "  } else {\n    read b;\n  }\n  loop {\n    break;\n  }\n  return x;\n}\n"
        )
        self.assertEqual(parse_text(text), (("f", (("a", "own"), ("b", "ref")), "mut", (
            ("let", "x", ("ref", "y")),
            ("set", "x", ("call", "g", (("name", "a"), ("mut", "b")))),
            ("if", (("drop", "a"),), (("read", "b"),)),
            ("loop", (("break",),)),
            ("return", "x"),
        )),))

    def test_rules_are_not_looked_at(self):
        text = "fn f() -> own { break; read a; g(a, a, a, a); } fn f(a: ref, a: ref, a: ref, a: ref) { write a; }"
        self.assertEqual(len(parse_text(text)), 2)
        self.assertEqual(len(parse_text("fn f() { }" * 6)), 6)


class Statements(unittest.TestCase):
    def test_let_and_set(self):
        self.assertEqual(body("let x = new;"), (("let", "x", ("new",)),))
        self.assertEqual(body("x = new;"), (("set", "x", ("new",)),))

    def test_uses(self):
        self.assertEqual(body("read a; write b; drop c;"), (("read", "a"), ("write", "b"), ("drop", "c")))

    def test_jumps(self):
        self.assertEqual(body("break; continue;"), (("break",), ("continue",)))
        self.assertEqual(body("return;"), (("return", None),))
        self.assertEqual(body("return x;"), (("return", "x"),))

    def test_calls(self):
        self.assertEqual(body("g();"), (("call", "g", ()),))
        self.assertEqual(body("g(a);"), (("call", "g", (("name", "a"),)),))
        self.assertEqual(body("g(a, ref b, mut c);"), (("call", "g", (("name", "a"), ("ref", "b"), ("mut", "c"))),))
        self.assertEqual(body("g(a, a, a, a, a);"), (("call", "g", (("name", "a"),) * 5),))

    def test_if_without_else_and_with_an_empty_one(self):
        self.assertEqual(body("if { }"), (("if", (), None),))
        self.assertEqual(body("if { } else { }"), (("if", (), ()),))
        self.assertEqual(body("if { read a; } read b;"), (("if", (("read", "a"),), None), ("read", "b")))
        self.assertEqual(body("if { } else { read a; }"), (("if", (), (("read", "a"),)),))

    def test_an_else_belongs_to_the_if_right_ahead_of_it(self):
        self.assertEqual(body("if { if { } else { } } else { read a; }"), (
            ("if", (("if", (), ()),), (("read", "a"),)),
        ))
        self.assertEqual(body("if { if { } } else { }"), (("if", (("if", (), None),), ()),))
        self.assertEqual(body("if { } if { } else { }"), (("if", (), None), ("if", (), ())))

    def test_else_blocks_within_else_blocks(self):
        self.assertEqual(body("if { } else { if { } else { loop { } } read a; }"), (
            ("if", (), (("if", (), (("loop", ()),)), ("read", "a"))),
        ))

    def test_loops(self):
        self.assertEqual(body("loop { }"), (("loop", ()),))
        self.assertEqual(body("loop { loop { break; } continue; }"), (
            ("loop", (("loop", (("break",),)), ("continue",))),
        ))


class Expressions(unittest.TestCase):
    def test_each_form(self):
        forms = {
            "new": ("new",),
            "a": ("name", "a"),
            "ref a": ("ref", "a"),
            "mut a": ("mut", "a"),
            "g()": ("call", "g", ()),
            "g(ref a)": ("call", "g", (("ref", "a"),)),
            "g(a, mut b)": ("call", "g", (("name", "a"), ("mut", "b"))),
        }
        for text, expression in forms.items():
            self.assertEqual(body(f"let x = {text};"), (("let", "x", expression),))
            self.assertEqual(body(f"x = {text};"), (("set", "x", expression),))


class Shapes(unittest.TestCase):
    def test_what_is_written_is_read_again(self):
        chance = random.Random(1)
        seen = 0
        for _ in range(400):
            program = makers.loose_program(chance)
            text = makers.text_of(program)
            if len(text) <= 1500:
                seen += 1
                self.assertEqual(parse_text(text), program)
                self.assertEqual(parse_text(text.replace(" ", "\n")), program)
        self.assertGreater(seen, 200)

    def test_no_list_stands_within_a_shape(self):
        text = "fn f(a: own) -> mut { if { g(ref a); } else { loop { break; } } let x = g(a); return x; } fn g() { }"
        self.assert_tuples(parse_text(text))

    def assert_tuples(self, shape):
        self.assertIn(type(shape), (tuple, str, type(None)))
        if isinstance(shape, tuple):
            for part in shape:
                self.assert_tuples(part)

    def test_defined_in_their_file(self):
        self.assertEqual(parse_text.__module__, "loancheck.reading")
        self.assertEqual(parse_program.__module__, "loancheck.reading")


if __name__ == "__main__":
    unittest.main()
