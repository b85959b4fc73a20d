"""t5: the written form of programs."""

import random
import re
import unittest

import makers

from loancheck.reading import parse_program, parse_text
from loancheck.rules import rule_fault
from loancheck.writing import function_text, program_text

DOCUMENT = """fn f(a: own, b: ref) -> mut {
  let x = ref y;
  x = g(a, mut b);
  if {
    drop a;
  } else {
    read b;
  }
  loop {
    break;
  }
  return x;
}
"""


def lines(*rows):
    return "".join(row + "\n" for row in rows)


def tokens_of(text):
    return re.findall(r"->|[a-z]+|[^a-z\s]", text)


class Writing(unittest.TestCase):
    def assert_body(self, body, *rows):
        """The lines of a function with a body, each with the two spaces of the body itself left out."""
        inner = ["  " + row for row in rows]
        self.assertEqual(function_text(("f", (), None, body)), lines("fn f() {", *inner, "}"))

    def assert_head(self, name, parameters, result, head):
        self.assertEqual(function_text((name, parameters, result, ())), lines(head + " {", "}"))


class Forms(Writing):
    def test_document(self):
        self.assertEqual(program_text(parse_text(DOCUMENT)), DOCUMENT)
        self.assertEqual(function_text(parse_text(DOCUMENT)[0]), DOCUMENT)
        self.assertEqual(program_text(parse_text(" ".join(DOCUMENT.split()))), DOCUMENT)

    def test_no_functions(self):
        self.assertEqual(program_text(()), "")

    def test_one_function(self):
        self.assertEqual(program_text((("f", (), None, ()),)), "fn f() {\n}\n")

    def test_several_functions(self):
        program = parse_program("fn a() {} fn b(x: own) { read x; } fn c() { a(); }")
        self.assertEqual(
            program_text(program), "fn a() {\n}\n\nfn b(x: own) {\n  read x;\n}\n\nfn c() {\n  a();\n}\n"
        )

    def test_heads(self):
        self.assert_head("main", (), None, "fn main()")
        self.assert_head("f", (("a", "own"),), None, "fn f(a: own)")
        self.assert_head("f", (("a", "ref"), ("bb", "mut")), None, "fn f(a: ref, bb: mut)")
        self.assert_head("f", (("a", "own"), ("b", "own"), ("c", "ref")), None, "fn f(a: own, b: own, c: ref)")

    def test_results(self):
        self.assert_head("f", (), "own", "fn f() -> own")
        self.assert_head("f", (), "ref", "fn f() -> ref")
        self.assert_head("abcdefgh", (("a", "mut"),), "mut", "fn abcdefgh(a: mut) -> mut")

    def test_let_and_assignment(self):
        self.assert_body((("let", "x", ("new",)), ("set", "x", ("new",))), "let x = new;", "x = new;")
        self.assert_body((("let", "x", ("name", "y")), ("set", "x", ("name", "y"))), "let x = y;", "x = y;")
        self.assert_body((("let", "x", ("ref", "y")), ("set", "x", ("ref", "y"))), "let x = ref y;", "x = ref y;")
        self.assert_body((("let", "x", ("mut", "y")), ("set", "x", ("mut", "y"))), "let x = mut y;", "x = mut y;")
        call = ("call", "g", (("ref", "y"),))
        self.assert_body((("let", "x", call), ("set", "x", call)), "let x = g(ref y);", "x = g(ref y);")

    def test_calls(self):
        self.assert_body((("call", "g", ()),), "g();")
        self.assert_body((("call", "g", (("name", "a"),)),), "g(a);")
        self.assert_body((("call", "g", (("mut", "a"), ("ref", "b"))),), "g(mut a, ref b);")
        self.assert_body((("call", "g", (("ref", "a"), ("name", "b"), ("mut", "c"))),), "g(ref a, b, mut c);")
        self.assert_body((("let", "x", ("call", "g", ())),), "let x = g();")

    def test_uses_and_leaps(self):
        self.assert_body((("read", "a"), ("write", "b"), ("drop", "c")), "read a;", "write b;", "drop c;")
        self.assert_body((("break",), ("continue",)), "break;", "continue;")
        self.assert_body((("return", None), ("return", "x")), "return;", "return x;")

    def test_if_without_else(self):
        self.assert_body((("if", (("read", "a"),), None),), "if {", "  read a;", "}")

    def test_if_with_else(self):
        self.assert_body(
            (("if", (("read", "a"),), (("read", "b"), ("drop", "c"))),),
            "if {", "  read a;", "} else {", "  read b;", "  drop c;", "}",
        )

    def test_if_with_an_empty_else(self):
        self.assert_body((("if", (("read", "a"),), ()),), "if {", "  read a;", "} else {", "}")

    def test_empty_blocks(self):
        self.assert_body((("if", (), None),), "if {", "}")
        self.assert_body((("if", (), ()),), "if {", "} else {", "}")
        self.assert_body((("loop", ()),), "loop {", "}")
        self.assert_body((("if", (), (("read", "a"),)),), "if {", "} else {", "  read a;", "}")

    def test_blocks_in_blocks(self):
        inner = ("loop", (("if", (("break",),), (("loop", ()), ("continue",))), ("read", "a")))
        self.assert_body(
            (("if", (inner,), (inner,)), ("read", "z")),
            "if {", "  loop {", "    if {", "      break;", "    } else {", "      loop {", "      }",
            "      continue;", "    }", "    read a;", "  }", "} else {", "  loop {", "    if {", "      break;",
            "    } else {", "      loop {", "      }", "      continue;", "    }", "    read a;", "  }", "}", "read z;",
        )

    def test_statements_behind_a_block_have_the_margin_of_the_block_around(self):
        self.assert_body(
            (("loop", (("loop", (("break",),)), ("break",))), ("return", None)),
            "loop {", "  loop {", "    break;", "  }", "  break;", "}", "return;",
        )

    def test_a_function_that_breaks_rules_has_a_written_form(self):
        program = parse_text("fn f(a:ref,a:ref,b:own,c:own)->own{break;write a;g(x);}fn f(){}")
        self.assertEqual(
            program_text(program),
            "fn f(a: ref, a: ref, b: own, c: own) -> own {\n  break;\n  write a;\n  g(x);\n}\n\nfn f() {\n}\n",
        )

    def test_deep_blocks(self):
        text = "fn f() {" + "loop {" * 59 + "}" * 60
        written = program_text(parse_text(text))
        rows = written.split("\n")
        self.assertEqual(rows[:3], ["fn f() {", "  loop {", "    loop {"])
        self.assertEqual(rows[59:61], [" " * 118 + "loop {", " " * 118 + "}"])
        self.assertEqual(len(rows), 121)
        block = ("read", "a")
        for _ in range(75):
            block = ("if", (block,), None)
        self.assertEqual(function_text(("f", (), None, (block,))).count("\n"), 153)


class Reading(unittest.TestCase):
    def assert_read_again(self, program):
        written = program_text(program)
        self.assertEqual(written, "\n".join(function_text(function) for function in program))
        if len(written) <= 1500:
            self.assertEqual(parse_text(written), program)
        return len(written) <= 1500

    def test_any_programs_are_read_again(self):
        chance = random.Random(21)
        many = sum(self.assert_read_again(makers.loose_program(chance)) for _ in range(300))
        self.assertGreater(many, 200)

    def test_programs_that_keep_the_rules_are_read_again(self):
        chance = random.Random(22)
        many = 0
        for _ in range(300):
            program = makers.small_program(chance)
            if rule_fault(program) is None and self.assert_read_again(program):
                self.assertEqual(parse_program(program_text(program)), program)
                many += 1
        self.assertGreater(many, 200)

    def test_texts_of_the_same_tokens_have_the_same_written_form(self):
        chance = random.Random(23)
        many = 0
        for _ in range(200):
            program = makers.loose_program(chance)
            written = program_text(program)
            tight = makers.text_of(program)
            spaced = "".join(chance.choice(("\n", "  ", " \n ")) if sign == " " else sign for sign in tight)
            for text in (tight, spaced):
                if len(text) <= 1500 and len(written) <= 1500:
                    self.assertEqual(program_text(parse_text(text)), written)
                    many += 1
        self.assertGreater(many, 200)

    def test_the_written_form_has_the_tokens_of_the_program(self):
        chance = random.Random(24)
        for _ in range(100):
            program = makers.loose_program(chance)
            self.assertEqual(tokens_of(program_text(program)), tokens_of(makers.text_of(program)))

    def test_each_line_ends_in_a_newline_and_has_no_space_at_its_end(self):
        chance = random.Random(25)
        for _ in range(100):
            written = program_text(makers.loose_program(chance))
            self.assertTrue(written == "" or written.endswith("}\n"))
            self.assertFalse(written.endswith("\n\n"))
            for row in written.split("\n"):
                self.assertEqual(row, row.rstrip())
                self.assertEqual((len(row) - len(row.lstrip())) % 2, 0)

    def test_programs_are_not_changed(self):
        chance = random.Random(26)
        for _ in range(30):
            program = makers.loose_program(chance)
            before = repr(program)
            self.assertEqual(program_text(program), program_text(program))
            self.assertEqual(repr(program), before)


if __name__ == "__main__":
    unittest.main()
