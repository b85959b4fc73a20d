"""t1, c1: the tokens of a text, and names. What a text is taken for shows in what is read, or where it is refused."""

import string
import unittest

from grammar import WORDS
from refusals import refusal

from loancheck.reading import parse_text


class Spaces(unittest.TestCase):
    program = (("f", (("a", "own"), ("b", "ref")), "own", (
        ("let", "x", ("call", "g", (("ref", "a"), ("name", "b")))),
        ("set", "x", ("new",)),
        ("return", "x"),
    )),)

    def test_tokens_without_spaces(self):
        text = "fn f(a:own,b:ref)->own{let x=g(ref a,b);x=new;return x;}"
        self.assertEqual(parse_text(text), self.program)

    def test_tokens_with_spaces(self):
        text = "  fn  f ( a : own , b : ref ) -> own { let x = g ( ref a , b ) ; x = new ; return x ; }  "
        self.assertEqual(parse_text(text), self.program)

    def test_tokens_with_newlines(self):
        text = "\nfn\nf\n(a\n:\nown,\n\nb:ref)\n->\nown\n{\nlet\nx\n=g(ref\na,b)\n;x=\nnew;\n \nreturn\nx;\n}\n\n"
        self.assertEqual(parse_text(text), self.program)

    def test_nothing_but_spaces_and_newlines(self):
        for text in ("", " ", "\n", " \n \n\n  "):
            self.assertEqual(parse_text(text), (), repr(text))

    def test_spaces_are_no_tokens(self):
        self.assertEqual(refusal("fn  f\n\n(  )  }"), (5, "unexpected token"))

    def test_a_space_stands_within_no_token(self):
        self.assertEqual(refusal("fn f() - > own { let x = new; return x; }"), (5, "unexpected token"))
        self.assertEqual(refusal("fn f() -\n> own { let x = new; return x; }"), (5, "unexpected token"))
        self.assertEqual(refusal("f n f() { }"), (1, "unexpected token"))
        self.assertEqual(refusal("fn f() { re ad x; }"), (7, "unexpected token"))

    def test_a_space_ends_a_word(self):
        self.assertEqual(refusal("fnf() { }"), (1, "unexpected token"))
        self.assertEqual(refusal("fn f() { readx; }"), (7, "unexpected token"))
        self.assertEqual(refusal("fn f() { let x = newy; }"), None)
        self.assertEqual(parse_text("fn f() { let x = newy; }")[0][3], (("let", "x", ("name", "newy")),))


class Words(unittest.TestCase):
    def test_a_word_behind_and_ahead_of_a_name_is_one_name(self):
        for word in WORDS:
            for name in ("x" + word, word + "x"):
                if len(name) <= 8:
                    self.assertEqual(parse_text(f"fn {name}() {{ read {name}; }}"), (
                        (name, (), None, (("read", name),)),
                    ))
                else:
                    self.assertEqual(refusal(f"fn {name}() {{ }}"), (2, "unexpected token"), name)

    def test_a_word_is_no_name(self):
        for word in WORDS:
            self.assertEqual(refusal(f"fn {word}() {{ }}"), (2, "unexpected token"), word)
            self.assertEqual(refusal(f"fn f({word}: own) {{ }}"), (4, "unexpected token"), word)
            self.assertEqual(refusal(f"fn f() {{ let {word} = new; }}"), (7, "unexpected token"), word)
            self.assertEqual(refusal(f"fn f() {{ drop {word}; }}"), (7, "unexpected token"), word)

    def test_lengths_of_names(self):
        for name in ("a", "z", "abcdefgh", "zzzzzzzz", "continua", "returns"):
            self.assertEqual(parse_text(f"fn {name}() {{ }}"), ((name, (), None, ()),))
        for name in ("abcdefghi", "continuee", "a" * 20):
            self.assertEqual(refusal(f"fn {name}() {{ }}"), (2, "unexpected token"), name)
            self.assertEqual(refusal(f"{name} f() {{ }}"), (1, "unexpected token"), name)
            self.assertEqual(refusal(f"fn f() {{ {name} = new; }}"), (6, "unexpected token"), name)

    def test_a_longer_run_is_one_token(self):
        self.assertEqual(refusal("fn abcdefghabcdefgh() { }"), (2, "unexpected token"))
        self.assertEqual(refusal("fn f() { read abcdefghi"), (7, "unexpected token"))

    def test_words_that_other_languages_have_are_names(self):
        for name in ("while", "true", "none", "fun", "use", "move", "copy", "end", "main"):
            self.assertEqual(refusal(f"fn {name}({name}: ref) {{ read {name}; }}"), None, name)


class Signs(unittest.TestCase):
    def test_minus_without_a_sign_behind(self):
        self.assertEqual(refusal("fn f() -"), (5, "unexpected token"))
        self.assertEqual(refusal("fn f() -own { }"), (5, "unexpected token"))
        self.assertEqual(refusal("fn f() --> own { }"), (5, "unexpected token"))
        self.assertEqual(refusal("-"), (1, "unexpected token"))

    def test_a_sign_without_minus_ahead(self):
        self.assertEqual(refusal("fn f() > own { }"), (5, "unexpected token"))
        self.assertEqual(refusal("fn f() ->> own { }"), (6, "unexpected token"))
        self.assertEqual(refusal(">"), (1, "unexpected token"))
        self.assertEqual(refusal(">-"), (1, "unexpected token"))

    def test_an_arrow_is_one_token(self):
        self.assertEqual(refusal("fn f()->own->"), (7, "unexpected token"))
        self.assertEqual(refusal("fn f()->own"), (7, "unexpected end"))

    def test_other_characters_fit_nowhere(self):
        others = [sign for sign in string.printable if sign not in string.ascii_lowercase + " \n{}(),;:="]
        others += ["\u00e9", "\u00df", "\u0430", "\u03b1", "\u00a0", "\u2028", "\ufeff", "\U0001d41a", "\0", "\x85"]
        for sign in others:
            self.assertEqual(refusal(sign), (1, "unexpected token"), repr(sign))
            self.assertEqual(refusal(f"fn f{sign}() {{ }}"), (3, "unexpected token"), repr(sign))
            self.assertEqual(refusal(f"fn {sign}f() {{ }}"), (2, "unexpected token"), repr(sign))
            self.assertEqual(refusal(f"fn f() {{{sign}}}"), (6, "unexpected token"), repr(sign))
            self.assertEqual(refusal(f"fn f() {{ }}{sign}"), (7, "unexpected token"), repr(sign))

    def test_digits_and_capitals_belong_to_no_name(self):
        self.assertEqual(refusal("fn f1() { }"), (3, "unexpected token"))
        self.assertEqual(refusal("fn fA() { }"), (3, "unexpected token"))
        self.assertEqual(refusal("fn A() { }"), (2, "unexpected token"))
        self.assertEqual(refusal("FN f() { }"), (1, "unexpected token"))
        self.assertEqual(refusal("fn\tf() { }"), (2, "unexpected token"))
        self.assertEqual(refusal("fn f() { }\r\n"), (7, "unexpected token"))
        self.assertEqual(refusal("fn f_g() { }"), (3, "unexpected token"))

    def test_each_other_character_is_a_token_of_its_own(self):
        self.assertEqual(refusal("fn f() { 12 }"), (6, "unexpected token"))
        self.assertEqual(refusal("fn f() { read x 12"), (8, "unexpected token"))


if __name__ == "__main__":
    unittest.main()
