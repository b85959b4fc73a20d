"""w1, w2: workspaces, what is put into them, removed and undone, and whom it affects."""

import unittest

from loancheck.check import check
from loancheck.errors import BadArgument, BadEdit, LoanError
from loancheck.reading import parse_program
from loancheck.workspace import Workspace
from loancheck.writing import program_text

PICK = "fn pick(a: ref, b: ref) -> ref { return a; }"
PICK_BOTH = "fn pick(a: ref, b: ref) -> ref { if { return a; } return b; }"
MAIN = "fn main() { let x = new; let y = new; let r = pick(ref x, ref y); write y; read r; }"


class Spaces(unittest.TestCase):
    def setUp(self):
        self.space = Workspace()

    def put(self, *texts):
        """Puts several functions; tells whom the last one affects."""
        for text in texts:
            told = self.space.put(text)
        return told

    def state(self):
        space = self.space
        names = [function[0] for function in space.program()]
        return (space.program(), space.text(), [space.report(name) for name in names], space.journal())

    def assert_program(self, *texts):
        """Looks at the functions, and at all that follows from them."""
        program = parse_program(" ".join(texts))
        self.assertEqual(self.space.program(), program)
        self.assertEqual(self.space.text(), program_text(program))
        for function in program:
            expected = [problem for problem in check(program) if problem[0] == function[0]]
            self.assertEqual(self.space.report(function[0]), expected)

    def assert_refused(self, edit, argument, reason):
        """An edit is refused, and nothing has changed behind it."""
        before = self.state()
        with self.assertRaises(BadEdit) as caught:
            edit(*argument)
        self.assertEqual(caught.exception.reason, reason)
        self.assertIsInstance(caught.exception, LoanError)
        self.assertEqual(self.state(), before)

    def refuse_put(self, text, reason):
        self.assert_refused(self.space.put, (text,), reason)

    def refuse_remove(self, name, reason):
        self.assert_refused(self.space.remove, (name,), reason)

    def refuse_undo(self):
        self.assert_refused(self.space.undo, (), "nothing to undo")


class Document(Spaces):
    def test_document(self):
        space = Workspace()
        self.assertEqual((space.put(PICK), space.put(MAIN)), (["pick"], ["main"]))
        self.assertEqual(
            (space.report("main"), space.put(PICK_BOTH), space.report("main"), space.undo()),
            ([], ["pick", "main"], [("main", 5, "conflict", "y", 3)], ["pick", "main"]),
        )
        self.assertEqual(space.report("main"), [])

    def test_an_empty_one(self):
        self.assertEqual((self.space.program(), self.space.text(), self.space.journal()), ((), "", ""))


class Put(Spaces):
    def test_a_new_function_stands_behind_the_others(self):
        self.assertEqual(self.put("fn g() { }"), ["g"])
        self.assertEqual(self.put("fn f() { }"), ["f"])
        self.assert_program("fn g() { }", "fn f() { }")

    def test_one_with_a_name_that_there_is_keeps_its_place(self):
        self.put("fn g() { }", "fn f() { }", "fn h() { }")
        self.assertEqual(self.put("fn f() { loop { } }"), ["f"])
        self.assert_program("fn g() { }", "fn f() { loop { } }", "fn h() { }")

    def test_the_same_text_again(self):
        self.put(PICK, MAIN)
        self.assertEqual(self.put(PICK), [])
        self.assert_program(PICK, MAIN)
        self.assertEqual(self.space.undo(), [])
        self.assert_program(PICK, MAIN)
        self.assertEqual(self.space.undo(), [])
        self.assert_program(PICK)

    def test_any_spaces_and_newlines(self):
        self.put("\n fn\nf(\n)  {loop{\n}}  ")
        self.assert_program("fn f() { loop { } }")

    def test_a_function_that_calls_itself(self):
        self.assertEqual(self.put("fn f() { if { f(); } }"), ["f"])
        self.assert_program("fn f() { if { f(); } }")

    def test_one_may_have_problems(self):
        self.assertEqual(self.put("fn f(a: own) { drop a; read a; }"), ["f"])
        self.assertEqual(self.space.report("f"), [("f", 1, "no value", "a", None)])


class Remove(Spaces):
    def test_a_function(self):
        self.put("fn f() { }", "fn g() { }", "fn h() { }")
        self.assertEqual(self.space.remove("g"), [])
        self.assert_program("fn f() { }", "fn h() { }")
        self.assertEqual(self.put("fn g() { }"), ["g"])
        self.assert_program("fn f() { }", "fn h() { }", "fn g() { }")

    def test_the_last_one(self):
        self.put("fn f() { f(); }")
        self.assertEqual(self.space.remove("f"), [])
        self.assertEqual((self.space.program(), self.space.text()), ((), ""))

    def test_one_that_is_called_no_more(self):
        self.put(PICK, MAIN)
        self.refuse_remove("pick", "unknown function pick")
        self.put("fn main() { }")
        self.assertEqual(self.space.remove("pick"), [])
        self.assert_program("fn main() { }")


class Undo(Spaces):
    def test_a_put_of_a_new_function(self):
        self.put(PICK, MAIN)
        self.assertEqual(self.space.undo(), [])
        self.assert_program(PICK)

    def test_a_put_that_changed_one(self):
        self.put(PICK, MAIN, PICK_BOTH)
        self.assertEqual(self.space.undo(), ["pick", "main"])
        self.assert_program(PICK, MAIN)

    def test_a_remove(self):
        self.put("fn f() { }", "fn g() { }", "fn h() { }")
        self.space.remove("g")
        self.assertEqual(self.space.undo(), ["g"])
        self.assert_program("fn f() { }", "fn g() { }", "fn h() { }")

    def test_several_one_behind_the_other(self):
        self.put("fn f() { }", "fn g() { }", "fn f() { loop { } }")
        self.space.remove("g")
        self.assertEqual(self.space.undo(), ["g"])
        self.assert_program("fn f() { loop { } }", "fn g() { }")
        self.assertEqual(self.space.undo(), ["f"])
        self.assert_program("fn f() { }", "fn g() { }")
        self.assertEqual(self.space.undo(), [])
        self.assert_program("fn f() { }")
        self.assertEqual(self.space.undo(), [])
        self.assert_program()
        self.refuse_undo()

    def test_an_edit_behind_undos(self):
        self.put("fn f() { }", "fn g() { }", "fn h() { }")
        self.space.undo()
        self.space.undo()
        self.put("fn h() { loop { } }")
        self.assert_program("fn f() { }", "fn h() { loop { } }")
        self.assertEqual(self.space.undo(), [])
        self.assert_program("fn f() { }")
        self.assertEqual(self.space.undo(), [])
        self.assert_program()
        self.refuse_undo()

    def test_an_undo_is_not_undone(self):
        self.put("fn f() { }", "fn f() { loop { } }")
        self.space.undo()
        self.assert_program("fn f() { }")
        self.space.undo()
        self.assert_program()

    def test_refused_edits_are_not_undone(self):
        self.put("fn f() { }", "fn g() { f(); }")
        self.refuse_remove("f", "unknown function f")
        self.refuse_put("fn h() { k(); }", "unknown function k")
        self.assertEqual(self.space.undo(), [])
        self.assert_program("fn f() { }")

    def test_nothing_to_undo(self):
        self.refuse_undo()
        self.refuse_put("", "no function")
        self.refuse_undo()
        self.put("fn f() { }")
        self.space.undo()
        self.refuse_undo()


class NoFunction(Spaces):
    def test_texts_that_are_none(self):
        for text in (
            "", " \n", "f", "fn", "fn f", "fn f()", "fn f() {", "fn f() { } }", "fn f() { } x", "fn f() { read; }", "fn f() { } ;",
            "fn fn() { }", "fn abcdefghi() { }", "fn f() { } $", "fn F() { }", "remove f", "undo", "put fn f() { }",
        ):
            self.refuse_put(text, "no function")

    def test_two_functions(self):
        self.refuse_put("fn f() { } fn g() { }", "no function")
        self.refuse_put("fn f() { } fn f() { }", "no function")

    def test_texts_beyond_the_bounds(self):
        self.refuse_put("fn f() { }" + " " * 1491, "no function")
        self.put("fn f() { }" + " " * 1490)
        self.refuse_put("fn g() " + "{ if " * 60 + "{ }" + " }" * 60, "no function")

    def test_with_functions_that_are_there(self):
        self.put(PICK, MAIN)
        self.refuse_put("fn pick() { ", "no function")
        self.refuse_put(PICK + PICK, "no function")


class UnknownFunction(Spaces):
    def test_remove(self):
        self.refuse_remove("f", "unknown function")
        self.put("fn f() { }")
        for name in ("g", "", "fn", "f ", "F", "abcdefghi"):
            self.refuse_remove(name, "unknown function")
        self.space.remove("f")
        self.refuse_remove("f", "unknown function")


class Rules(Spaces):
    """The reasons of u2, in the function that is put, and in those that call it."""

    def test_too_many_functions(self):
        self.put(*[f"fn {name}() {{ }}" for name in "abcde"])
        self.refuse_put("fn f() { }", "too many functions")
        self.assertEqual(self.put("fn e() { a(); }"), [])
        self.space.remove("b")
        self.assertEqual(self.put("fn f() { }"), ["f"])

    def test_in_the_function_that_is_put(self):
        self.put("fn g(a: ref) -> ref { return a; }", "fn h() { }")
        for body, reason in (
            ("let a = new;", "duplicate variable a"),
            ("read x;", "unknown variable x"),
            ("let b = ref a; let c = ref b;", "reference to shared b"),
            ("let r = ref a; r = a;", "wrong kind of r"),
            ("k();", "unknown function k"),
            ("g(a);", "wrong kind of argument 0"),
            ("g();", "wrong number of arguments"),
            ("let x = h();", "no result of h"),
            ("let r = ref a; write r;", "write to shared r"),
            ("let r = ref a; drop r;", "drop of reference r"),
            ("break;", "not in a loop"),
            ("continue;", "not in a loop"),
            ("return a;", "unexpected result"),
            ("let b = new; let c = new; let d = new; let e = new; let i = new; let j = new; let k = new; let l = new;",
             "too many variables"),
            ("read a; " * 59, "too many nodes"),
        ):
            self.refuse_put("fn f(a: own) { " + body + " }", reason)
        self.put("fn f(a: own) { " + "read a; " * 58 + "}")
        self.refuse_put("fn f(a: own) -> own { }", "missing result")
        self.refuse_put("fn f(a: own) -> own { if { return; } return a; }", "missing result")
        self.refuse_put("fn f(a: own) -> ref { return a; }", "wrong kind of result")
        self.refuse_put("fn f(a: own, a: own) { }", "duplicate variable a")
        self.refuse_put("fn f(a: own, b: own, c: own, d: own) { }", "too many parameters")

    def test_in_those_that_call_it(self):
        self.put("fn g(a: own) -> own { return a; }", "fn f(a: own) { let b = g(a); write b; }")
        for text, reason in (
            ("fn g() -> own { let a = new; return a; }", "wrong number of arguments"),
            ("fn g(a: own, b: own) -> own { return a; }", "wrong number of arguments"),
            ("fn g(a: ref) -> ref { return a; }", "wrong kind of argument 0"),
            ("fn g(a: own) { }", "no result of g"),
            ("fn g(a: own) -> ref { let r = ref a; return r; }", "write to shared b"),
        ):
            self.refuse_put(text, reason)
        self.refuse_remove("g", "unknown function g")
        self.put("fn g(a: own) -> mut { let r = mut a; return r; }")

    def test_in_what_a_caller_does_with_the_result(self):
        result = "fn g() -> ref { let x = new; let r = ref x; return r; }"
        for body, reason in (
            ("let b = g(); drop b;", "drop of reference b"),
            ("let b = g(); let r = mut b;", "reference to shared b"),
            ("let b = new; b = g();", "wrong kind of b"),
            ("let b = g(); f(b);", "wrong kind of argument 0"),
            ("let b = g(); if { return b; }", "wrong kind of result"),
            ("let b = g(); loop { b = new; break; }", "wrong kind of b"),
        ):
            self.setUp()
            self.put("fn g() -> own { let x = new; return x; }", "fn f(a: own) -> own { " + body + " return a; }")
            self.refuse_put(result, reason)
            self.put("fn f(a: own) -> own { return a; }", result)

    def test_a_caller_that_grows_too_great(self):
        """A call of a function with a result has a node more."""
        self.put("fn g() { }", "fn f() { " + "g(); " * 59 + "}")
        self.refuse_put("fn g() -> own { let x = new; return x; }", "too many nodes")

    def test_the_first_rule_that_is_broken(self):
        self.put("fn g() { }", "fn f() { g(); }", "fn h() { g(); }")
        self.refuse_put("fn g(a: own) { read x; }", "unknown variable x")
        self.refuse_put("fn g(a: own) { f(); h(); }", "wrong number of arguments")
        self.put("fn e() { h(); f(); }")
        self.refuse_put("fn h(a: own) { k(); }", "unknown function k")

    def test_remove_of_one_that_is_called(self):
        self.put("fn g() { }", "fn f() { g(); }", "fn h() { f(); }")
        self.refuse_remove("g", "unknown function g")
        self.refuse_remove("f", "unknown function f")
        self.space.remove("h")
        self.space.remove("f")
        self.space.remove("g")


class Affected(Spaces):
    def test_those_whose_problems_change(self):
        self.put(PICK, MAIN)
        self.assertEqual(self.put(PICK_BOTH), ["pick", "main"])
        self.assertEqual(self.put(PICK_BOTH), [])
        self.assertEqual(self.put(PICK), ["pick", "main"])

    def test_those_whose_summary_changes(self):
        self.put("fn f() { }", "fn g() { f(); }", "fn h() { }")
        self.assertEqual(self.put("fn f() { loop { } }"), ["f", "g"])
        self.assertEqual(self.put("fn f() { f(); }"), [])
        self.assertEqual(self.put("fn f() { if { f(); } }"), ["f", "g"])

    def test_callers_of_callers(self):
        self.put("fn h(a: ref) -> ref { return a; }", "fn g(a: ref) -> ref { let r = h(a); return r; }",
                 "fn f() { let x = new; let r = g(ref x); read x; read r; }", "fn k() { f(); }")
        self.assertEqual(self.put("fn h(a: ref) -> ref { let r = h(a); return r; }"), ["h", "g", "f", "k"])
        self.assertEqual(self.space.undo(), ["h", "g", "f", "k"])

    def test_in_the_order_behind_the_edit(self):
        self.put("fn f() { }", "fn g() { f(); }")
        self.assertEqual(self.put("fn f() { loop { } }"), ["f", "g"])
        self.put("fn h() { }", "fn g() { h(); }", "fn h() { f(); }")
        self.assertEqual([function[0] for function in self.space.program()], ["f", "g", "h"])
        self.assertEqual(self.put("fn f() { }"), ["f", "g", "h"])

    def test_the_function_itself_is_not_told_if_neither_changes(self):
        self.put("fn f(a: own) { read a; }")
        self.assertEqual(self.put("fn f(a: own) { write a; drop a; }"), [])
        self.assertEqual(self.put("fn f(a: own) { drop a; write a; }"), ["f"])
        self.assertEqual(self.put("fn f(a: own) { drop a; read a; }"), [])
        self.assertEqual(self.put("fn f(b: own) { drop b; read b; }"), ["f"])

    def test_problems_by_node_kind_variable_and_loan(self):
        begin = "fn f(a: own, b: own) { "
        self.put(begin + "drop a; read a; }")
        self.assertEqual(self.put(begin + "read b; drop a; read a; }"), ["f"])
        self.assertEqual(self.put(begin + "read a; drop b; read b; }"), ["f"])
        self.put(begin + "let r = ref a; let s = ref b; write a; read r; }")
        self.assertEqual(self.put(begin + "let s = ref b; let r = ref a; write a; read r; }"), ["f"])
        self.assertEqual(self.put(begin + "let r = ref b; let s = ref a; write a; read s; }"), [])
        self.assertEqual(self.put(begin + "let r = ref b; let s = ref a; drop a; read s; }"), [])

    def test_one_whose_summary_stays_is_not_told_though_its_callee_is(self):
        self.put("fn g(a: own) { }", "fn f(a: own) { g(a); }")
        self.assertEqual(self.put("fn g(a: own) { drop a; read a; }"), ["g"])
        self.assertEqual(self.space.undo(), ["g"])

    def test_what_is_put_anew_behind_a_remove(self):
        self.put("fn f() { }")
        self.space.remove("f")
        self.assertEqual(self.put("fn f() { }"), ["f"])
        self.assertEqual(self.space.undo(), [])
        self.assertEqual(self.space.undo(), ["f"])

    def test_lists_are_new(self):
        told = self.put("fn f(a: own) { drop a; read a; }")
        told.clear()
        self.space.report("f").clear()
        self.assertEqual(self.space.report("f"), [("f", 1, "no value", "a", None)])


class Reports(Spaces):
    def test_for_each_function(self):
        self.put("fn f(a: own) { drop a; read a; }", "fn g(a: own) { f(a); f(a); }", "fn h() { }")
        self.assertEqual(self.space.report("f"), [("f", 1, "no value", "a", None)])
        self.assertEqual(self.space.report("g"), [("g", 2, "no value", "a", None)])
        self.assertEqual(self.space.report("h"), [])

    def test_a_name_that_there_is_not(self):
        for name in ("f", "", "fn"):
            with self.assertRaises(BadArgument) as caught:
                self.space.report(name)
            self.assertEqual(caught.exception.reason, "function")
        self.put("fn f() { }")
        self.space.remove("f")
        with self.assertRaises(BadArgument):
            self.space.report("f")
        self.space.undo()
        self.assertEqual(self.space.report("f"), [])

    def test_spaces_are_their_own(self):
        other = Workspace()
        self.put("fn f() { }")
        self.assertEqual((other.program(), other.journal()), ((), ""))
        other.put("fn f() { loop { } }")
        self.assert_program("fn f() { }")


if __name__ == "__main__":
    unittest.main()
