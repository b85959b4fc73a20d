"""t3: the texts that are refused, with the number of a token and the reason."""

import random
import unittest

import grammar
import makers
from refusals import refusal

from loancheck.errors import BadText
from loancheck.reading import parse_program, parse_text

# Programs that go through each place of the language.
EVERY_PLACE = (
    "fn f ( a : own , b : ref , c : mut ) -> mut { let x = new ; x = ref y ; return ; return x ; } "
    "fn g ( ) { g ( ) ; h ( a , ref b , mut c ) ; let x = g ( ) ; x = g ( a , b ) ; let y = z ; y = mut x ; }",
    "fn f ( a : own ) { if { read a ; } if { write a ; } else { drop a ; } loop { break ; continue ; } } fn g ( ) { }",
    "fn f ( ) -> own { loop { if { if { } } else { loop { } } } } fn g ( ) -> ref { }",
)


class UnexpectedTokens(unittest.TestCase):
    def test_the_grammar_of_the_tests_takes_what_it_should(self):
        self.assertEqual(grammar.fault([]), None)
        self.assertEqual(grammar.fault("fn f ( ) { }".split()), None)
        self.assertEqual(grammar.fault("fn f ( ) {".split()), (6, "unexpected end"))
        self.assertEqual(grammar.fault("fn f ( ) { read read".split()), (7, "unexpected token"))
        for text in EVERY_PLACE:
            self.assertEqual(grammar.fault(text.split()), None)

    def test_each_token_at_each_place(self):
        for text in EVERY_PLACE:
            tokens = text.split()
            for many in range(len(tokens) + 1):
                for token in grammar.EACH_TOKEN:
                    trial = tokens[:many] + [token]
                    self.assertEqual(refusal(" ".join(trial)), grammar.fault(trial), trial)

    def test_each_token_at_each_place_with_more_behind(self):
        for text in EVERY_PLACE:
            tokens = text.split()
            for many in range(len(tokens)):
                for token in ("read", "x", ";", "}", "else", "#"):
                    trial = tokens[:many] + [token] + tokens[many + 1:]
                    self.assertEqual(refusal(" ".join(trial)), grammar.fault(trial), trial)

    def test_some_by_hand(self):
        faults = {
            "x": 1, "fn fn": 2, "fn f {": 3, "fn f(,": 4, "fn f(a)": 5, "fn f(a: x": 6, "fn f(a: own b": 7,
            "fn f(a: own,)": 8, "fn f() own": 5, "fn f() -> {": 6, "fn f() -> own;": 7, "fn f() { fn": 6,
            "fn f() { let = new;": 7, "fn f() { let x;": 8, "fn f() { let x = ;": 9, "fn f() { let x = new new": 10,
            "fn f() { let x = read": 9, "fn f() { let x = y = new": 10, "fn f() { x;": 7, "fn f() { ref x": 6,
            "fn f() { new;": 6, "fn f() { g(new": 8, "fn f() { g(h(": 9, "fn f() { g(,": 8, "fn f() { g(a,)": 10,
            "fn f() { g(a b": 9, "fn f() { g() }": 9, "fn f() { read ref x": 7, "fn f() { read;": 7,
            "fn f() { let x = ref new;": 10, "fn f() { let x = ref g(": 11, "fn f() { if ;": 7, "fn f() { if x": 7,
            "fn f() { else {": 6, "fn f() { if { } else if": 10, "fn f() { loop { } else": 9,
            "fn f() { if { } else { } else": 12, "fn f() { break x": 7, "fn f() { return new": 7,
            "fn f() { return ref x": 7, "fn f() { return x y": 8, "fn f() { } }": 7, "fn f() { } ;": 7,
            "fn f() { ; }": 6, "fn f() { { }": 6, "fn f() { read x; };": 10, "fn f(a: own,,": 8,
        }
        for text, token in faults.items():
            self.assertEqual(refusal(text), (token, "unexpected token"), text)

    def test_the_first_one_counts(self):
        self.assertEqual(refusal("fn f( ) ) ( ;"), (5, "unexpected token"))
        self.assertEqual(refusal("fn f() { read 1; write 2; } x"), (7, "unexpected token"))

    def test_a_token_that_does_not_fit_counts_ahead_of_the_end(self):
        self.assertEqual(refusal("fn f() { read read"), (7, "unexpected token"))

    def test_parse_program_refuses_the_same(self):
        for text, fault in (("fn f() { x", (7, "unexpected end")), ("fn f() { x }", (7, "unexpected token"))):
            with self.assertRaises(BadText) as caught:
                parse_program(text)
            self.assertEqual((caught.exception.token, caught.exception.reason), fault)


class UnexpectedEnds(unittest.TestCase):
    def test_an_end_at_each_place(self):
        for text in EVERY_PLACE:
            tokens = text.split()
            for many in range(len(tokens)):
                expected = grammar.fault(tokens[:many])
                self.assertIn(expected, (None, (many + 1, "unexpected end")))
                self.assertEqual(refusal(" ".join(tokens[:many])), expected, tokens[:many])
                self.assertEqual(refusal(" ".join(tokens[:many]) + " \n\n"), expected, tokens[:many])

    def test_some_by_hand(self):
        ends = {
            "fn": 2, "fn f": 3, "fn f(": 4, "fn f(a": 5, "fn f(a:": 6, "fn f(a: own": 7, "fn f(a: own,": 8,
            "fn f()": 5, "fn f() ->": 6, "fn f() -> own": 7, "fn f() {": 6, "fn f() { let": 7, "fn f() { let x": 8,
            "fn f() { let x =": 9, "fn f() { let x = new": 10, "fn f() { let x = ref": 10, "fn f() { x": 7,
            "fn f() { x =": 8, "fn f() { g(": 8, "fn f() { g(a": 9, "fn f() { g(a,": 10, "fn f() { g()": 9,
            "fn f() { let x = y": 10, "fn f() { if": 7, "fn f() { if {": 8, "fn f() { if { }": 9,
            "fn f() { if { } else": 10, "fn f() { if { } else {": 11, "fn f() { loop": 7, "fn f() { break": 7,
            "fn f() { return": 7, "fn f() { return x": 8, "fn f() { read": 7, "fn f() { read x": 8,
            "fn f() { } fn": 8,
        }
        for text, token in ends.items():
            self.assertEqual(refusal(text), (token, "unexpected end"), text)

    def test_mixed_up_programs(self):
        chance = random.Random(2)
        for _ in range(600):
            tokens = makers.text_of(makers.loose_program(chance))
            for sign in "(),;:":
                tokens = tokens.replace(sign, f" {sign} ")
            tokens = tokens.split()
            for _ in range(chance.randrange(3)):
                place = chance.randrange(len(tokens) + 1)
                tokens[place:place + chance.randrange(2)] = [chance.choice(grammar.EACH_TOKEN)]
            tokens = tokens[:chance.randrange(len(tokens) + 3)]
            text = " ".join(tokens)
            if len(text) <= 1500:
                self.assertEqual(refusal(text), grammar.fault(tokens), text)


    def test_any_characters_raise_no_other_error(self):
        chance = random.Random(7)
        signs = "fn loop{}(),;:=->abz \n\tA1\u00e9"
        for _ in range(500):
            text = "".join(chance.choice(signs) for _ in range(chance.randrange(60)))
            found = refusal("fn f() {" + text)
            if found is not None:
                self.assertIn(found[1], ("unexpected token", "unexpected end"))
                self.assertGreater(found[0], 5)


class LongTexts(unittest.TestCase):
    def test_lengths_of_texts(self):
        program = "fn f() { }"
        self.assertEqual(parse_text(program + " " * (1500 - len(program))), (("f", (), None, ()),))
        self.assertEqual(refusal(program + " " * (1501 - len(program))), (0, "text too long"))
        self.assertEqual(parse_text("\n" * 1500), ())
        self.assertEqual(refusal("\n" * 1501), (0, "text too long"))

    def test_ahead_of_all_else(self):
        self.assertEqual(refusal("?" * 1500), (1, "unexpected token"))
        self.assertEqual(refusal("?" * 1501), (0, "text too long"))
        self.assertEqual(refusal("fn f() {" + " " * 1500), (0, "text too long"))
        deep = "fn f() {" + "loop{" * 61 + "}" * 62
        self.assertEqual(refusal(deep + " " * (1500 - len(deep))), (0, "blocks too deep"))
        self.assertEqual(refusal(deep + " " * (1501 - len(deep))), (0, "text too long"))

    def test_characters_are_counted_and_not_bytes(self):
        self.assertEqual(refusal("\u00e9" * 1500), (1, "unexpected token"))


class DeepBlocks(unittest.TestCase):
    def nested(self, words, many):
        """A function with so many blocks in one another, its body counted."""
        inner = "".join(words[number % len(words)] + "{" for number in range(many - 1))
        return "fn f(){" + inner + "}" * many

    def test_60_and_61_deep(self):
        for words in (["if"], ["loop"], ["if", "loop"], ["if{}else"], ["if{}else", "loop", "if"]):
            self.assertEqual(len(parse_text(self.nested(words, 60))), 1)
            self.assertEqual(refusal(self.nested(words, 61)), (0, "blocks too deep"))

    def test_the_blocks_read_are_60_deep(self):
        block = parse_text(self.nested(["loop"], 60))[0][3]
        depth = 1
        while block:
            block = block[0][1]
            depth += 1
        self.assertEqual(depth, 60)

    def test_only_a_program_is_too_deep(self):
        deep = self.nested(["if"], 61)
        many = 5 + 60 * 2 + 61
        self.assertEqual(refusal(deep + "}"), (many + 1, "unexpected token"))
        self.assertEqual(refusal(deep[:-1]), (many, "unexpected end"))
        self.assertEqual(refusal(deep + "fn g("), (many + 4, "unexpected end"))

    def test_blocks_behind_one_another_are_not_deep(self):
        self.assertEqual(refusal("fn f() {" + "if{}else{}" * 70 + "}"), None)
        self.assertEqual(refusal(self.nested(["if"], 60) + self.nested(["if"], 60)), None)
        self.assertEqual(refusal("fn f(){" + "if{" * 59 + "}" * 59 + "loop{" * 59 + "}" * 59 + "}"), None)

    def test_a_later_function_that_is_too_deep(self):
        self.assertEqual(refusal("fn g() { }" + self.nested(["loop"], 61)), (0, "blocks too deep"))

    def test_an_else_block_that_is_too_deep(self):
        self.assertEqual(refusal("fn f(){" + "if{" * 58 + "if{}else{}" + "}" * 59), None)
        self.assertEqual(refusal("fn f(){" + "if{" * 59 + "if{}else{}" + "}" * 60), (0, "blocks too deep"))

    def test_the_deepest_text(self):
        self.assertEqual(refusal(self.nested(["if"], 373)), (0, "blocks too deep"))
        self.assertEqual(refusal("fn f(){" + "if{" * 497), (5 + 2 * 497 + 1, "unexpected end"))

    def test_the_deepest_text_breaks_no_rule(self):
        self.assertEqual(len(parse_program(self.nested(["if"], 60))), 1)

    def test_rules_count_behind_it(self):
        with self.assertRaises(BadText) as caught:
            parse_program(self.nested(["if"], 61) + "fn f() { }")
        self.assertEqual((caught.exception.token, caught.exception.reason), (0, "blocks too deep"))


if __name__ == "__main__":
    unittest.main()
