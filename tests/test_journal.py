"""w3: the journals of workspaces, and workspaces that are made again from them."""

import unittest

from loancheck.errors import BadEdit, BadJournal, LoanError
from loancheck.journal import replay_journal
from loancheck.workspace import Workspace

PUT_F = "put fn f ( ) { }\n"
PUT_G = "put fn g ( a : own , b : ref ) -> own { loop { f ( ) ; if { break ; } } return a ; }\n"


def same(one, other):
    """Whether two workspaces are the same in all that can be asked of them, back to their beginnings."""
    while True:
        if (one.program(), one.text(), one.journal()) != (other.program(), other.text(), other.journal()):
            return False
        names = [function[0] for function in one.program()]
        if [one.report(name) for name in names] != [other.report(name) for name in names]:
            return False
        ends = [undone(one), undone(other)]
        if ends[0] != ends[1]:
            return False
        if ends[0] is None:
            return True


def undone(space):
    """Whom an undo affects, or None if there is nothing to undo."""
    try:
        return space.undo()
    except BadEdit:
        return None


class Lines(unittest.TestCase):
    def setUp(self):
        self.space = Workspace()

    def test_an_empty_one(self):
        self.assertEqual(self.space.journal(), "")

    def test_put(self):
        self.space.put("fn f(){}")
        self.assertEqual(self.space.journal(), PUT_F)
        self.space.put("  fn g(a:own,\n b:ref)->own\n{\n loop{f();if{break;}}return a;}\n")
        self.assertEqual(self.space.journal(), PUT_F + PUT_G)

    def test_all_tokens(self):
        self.space.put("fn f(a: own,b: mut)-> mut { let x=new; x =a ;let r= mut b; f(x,mut r); if{read x;}else{ } return r; }")
        self.assertEqual(
            self.space.journal(),
            "put fn f ( a : own , b : mut ) -> mut { let x = new ; x = a ; let r = mut b ; f ( x , mut r ) ;"
            " if { read x ; } else { } return r ; }\n",
        )

    def test_remove_and_undo(self):
        self.space.put("fn f() { }")
        self.space.remove("f")
        self.space.undo()
        self.space.undo()
        self.assertEqual(self.space.journal(), PUT_F + "remove f\nundo\nundo\n")

    def test_the_same_text_again_has_a_line(self):
        self.space.put("fn f() { }")
        self.space.put("fn f()\n{ }")
        self.assertEqual(self.space.journal(), PUT_F * 2)

    def test_none_for_an_edit_that_was_refused(self):
        for edit, argument in (
            (self.space.put, ("fn f() { g(); }",)), (self.space.put, ("",)), (self.space.remove, ("f",)), (self.space.undo, ()),
        ):
            with self.assertRaises(BadEdit):
                edit(*argument)
        self.assertEqual(self.space.journal(), "")


class Replays(unittest.TestCase):
    def make(self):
        space = Workspace()
        space.put("fn pick(a: ref, b: ref) -> ref { return a; }")
        space.put("fn main() { let x = new; let y = new; let r = pick(ref x, ref y); write y; read r; }")
        space.undo()
        space.put("fn\nmain() { let x = new; let y = new; let r = pick(ref x, ref y); write y; read r; }")
        space.put("fn pick(a: ref, b: ref) -> ref { if { return a; } return b; }")
        space.put("fn h() { }")
        space.remove("h")
        space.undo()
        return space

    def test_the_whole_journal(self):
        space = self.make()
        again = replay_journal(space.journal())
        self.assertEqual(again.report("main"), [("main", 5, "conflict", "y", 3)])
        self.assertEqual(again.journal(), space.journal())
        self.assertTrue(same(again, space))

    def test_the_empty_text(self):
        self.assertTrue(same(replay_journal(""), Workspace()))

    def test_it_goes_on(self):
        again = replay_journal(self.make().journal())
        self.assertEqual(again.put("fn pick(a: ref, b: ref) -> ref { return b; }"), ["pick"])
        self.assertEqual(again.undo(), ["pick"])
        # The remove of h was undone, so now its put is.
        self.assertEqual(again.undo(), [])
        self.assertEqual([function[0] for function in again.program()], ["pick", "main"])
        self.assertEqual(replay_journal(again.journal()).journal(), again.journal())

    def test_each_beginning_character_by_character(self):
        text = self.make().journal()
        lines = text.split("\n")[:-1]
        for end in range(len(text) + 1):
            whole = text[:end].count("\n")
            again = replay_journal(text[:end])
            self.assertEqual(again.journal(), "".join(line + "\n" for line in lines[:whole]))
            if text[:end].endswith("\n") or end % 50 == 0:
                self.assertTrue(same(again, replay_journal("".join(line + "\n" for line in lines[:whole]))))

    def test_each_beginning_is_as_it_was_behind_its_last_whole_line(self):
        edits = (
            lambda space: space.put("fn f() { }"),
            lambda space: space.put("fn g() { f(); }"),
            lambda space: space.undo(),
            lambda space: space.put("fn f(a: own) { drop a; read a; }"),
            lambda space: space.remove("f"),
            lambda space: space.undo(),
            lambda space: space.undo(),
            lambda space: space.undo(),
        )
        for many in range(len(edits) + 1):
            space = Workspace()
            for edit in edits[:many]:
                edit(space)
            self.assertTrue(same(replay_journal(space.journal()), space))

    def test_the_text_is_that_of_another_one_too(self):
        text = PUT_F + PUT_G
        self.assertEqual(replay_journal(text).journal(), text)
        self.assertTrue(same(replay_journal(text), replay_journal(text)))


class Refused(unittest.TestCase):
    def assert_bad(self, text, place):
        with self.assertRaises(BadJournal) as caught:
            replay_journal(text)
        self.assertEqual(caught.exception.place, place)
        self.assertIsInstance(caught.exception, LoanError)

    def assert_bad_line(self, line):
        """A line that is none, alone and behind others; what stands behind it is not looked at."""
        self.assert_bad(line + "\n", 1)
        self.assert_bad(PUT_F + PUT_G + line + "\n", 3)
        self.assert_bad(PUT_F + line + "\n" + PUT_G + "undo\n" + line + "\n", 2)
        # Without its newline it is no whole line.
        self.assertEqual(replay_journal(PUT_F + line).journal(), PUT_F)
        self.assertEqual(replay_journal(line).journal(), "")

    def test_an_empty_line(self):
        self.assert_bad_line("")
        self.assert_bad("\n", 1)
        self.assert_bad(PUT_F + "\n", 2)
        self.assert_bad("\n" + PUT_F, 1)

    def test_words_that_are_no_edits(self):
        for line in ("x", "redo", "Undo", "undone", "fn h ( ) { }", "putfn h ( ) { }", "removef", ".", "put", "remove", "un do", "$"):
            self.assert_bad_line(line)

    def test_spaces_too_many_or_too_few(self):
        for line in (
            "put fn h() { }", "put fn h ( ) {}", "put  fn h ( ) { }", "put fn h  ( ) { }", "put fn h ( ) { } ", " put fn h ( ) { }",
            "put fn h ( ) {  }", "put ", " ", "remove  f", "remove f ", " remove f", "undo ", " undo", "put fn h ( a : own,b : own ) { }",
        ):
            self.assert_bad_line(line)

    def test_names_that_are_none(self):
        for name in ("fn", "abcdefghi", "F", "f1", "f;", "(", "$", "new"):
            self.assert_bad_line(f"remove {name}")
            self.assert_bad_line(f"put fn {name} ( ) {{ }}")

    def test_something_behind_an_undo_or_a_remove(self):
        for line in ("undo undo", "undo f", "undo ;", "remove f f", "remove f undo", "remove f ;", "remove f g"):
            self.assert_bad_line(line)

    def test_puts_that_are_no_function(self):
        for line in (
            "put fn h ( ) {", "put fn h ( ) { } }", "put h", "put fn h ( ) { } fn k ( ) { }", "put fn h ( ) { read ; }",
            "put put fn h ( ) { }", "put fn h ( ) - > own { }", "put undo",
        ):
            self.assert_bad_line(line)

    def test_edits_that_are_refused(self):
        for line in (
            "remove h", "put fn h ( ) { k ( ) ; }", "put fn h ( ) { read a ; }", "put fn h ( ) { break ; }",
            "put fn f ( a : own , a : own ) { }",
        ):
            self.assert_bad_line(line)
        self.assert_bad("undo\n", 1)
        self.assert_bad(PUT_F + "undo\nundo\n", 3)
        self.assert_bad(PUT_F + "remove f\nremove f\n", 3)
        self.assert_bad(PUT_F + PUT_G + "remove f\n", 3)
        self.assert_bad(PUT_F + "put fn h ( ) { f ( ) ; }\nput fn f ( a : own ) { }\n", 3)
        six = "".join(f"put fn {name} ( ) {{ }}\n" for name in "abcdef")
        self.assert_bad(six, 6)
        self.assertEqual(len(replay_journal(six[:-1]).program()), 5)

    def test_the_first_one_counts(self):
        self.assert_bad("x\ny\n", 1)
        self.assert_bad(PUT_F + "x\n\nundo\n", 2)
        self.assert_bad(PUT_F + "undo\nundo\nx\n", 3)

    def test_other_signs(self):
        for line in ("put\tfn h ( ) { }", "undo\t", "undo\r", "put fn h ( ) {\r }", "remove\u00a0f", "put fn h ( ) { \x0b }"):
            self.assert_bad_line(line)

    def test_a_last_line_without_a_newline_is_not_looked_at(self):
        self.assertEqual(replay_journal("$$$").journal(), "")
        self.assertEqual(replay_journal(PUT_F + "undo").journal(), PUT_F)
        self.assertEqual(replay_journal(PUT_F + "undo\nremove x").journal(), PUT_F + "undo\n")


if __name__ == "__main__":
    unittest.main()
