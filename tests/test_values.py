"""s6: how many values a run makes, gets, drops and hands on."""

import unittest

from runners import numbers

HEADS = """ fn take(p: own) { } fn give() -> own { let p = new; return p; } fn swap(p: own, q: ref, r: own) -> own { return p; }
fn look(p: ref) -> ref { return p; }"""
OUTCOMES = {"take": ("none",), "give": ("none",), "swap": ("none",), "look": (0,)}


class Numbers(unittest.TestCase):
    def assert_numbers(self, text, told, made=0, got=0, dropped=0, handed=0):
        self.assertEqual(numbers(text + HEADS, told, OUTCOMES), (made, got, dropped, handed), (text, told))


class Got(Numbers):
    def test_parameters(self):
        self.assert_numbers("fn f() { }", ())
        self.assert_numbers("fn f(a: ref, b: mut) { }", (), got=0)
        self.assert_numbers("fn f(a: own) { }", (), got=1)
        self.assert_numbers("fn f(a: own, b: mut, c: own) { }", (), got=2)
        self.assert_numbers("fn f(a: own, b: own, c: own) { }", (), got=3)

    def test_results_of_calls(self):
        self.assert_numbers("fn f() { let x = give(); }", (0,))
        self.assert_numbers("fn f() { let x = give(); }", ((0, "none"), 1), got=1, dropped=1)
        self.assert_numbers("fn f() { give(); }", ((0, "none"), 1), got=1, dropped=1)
        self.assert_numbers("fn f(a: ref) { look(a); }", (0, (1, 0), 2, 3, 4))

    def test_each_round_of_a_loop(self):
        text = "fn f() { loop { give(); } }"
        self.assert_numbers(text, (0, (1, "none"), 2, 0, (1, "none"), 2, 0, 1), got=2, dropped=2)


class Made(Numbers):
    def test_each_new(self):
        self.assert_numbers("fn f() { let x = new; }", (0,), made=1)
        self.assert_numbers("fn f() { let x = new; x = new; }", (0, 1), made=2)
        self.assert_numbers("fn f() { let x = new; x = new; }", (0, 1, 2, 3, 4, 5), made=2, dropped=2)

    def test_each_round_of_a_loop(self):
        self.assert_numbers("fn f() { loop { let x = new; } }", (0, 1, 2, 0, 1, 2, 0, 1), made=3, dropped=2)

    def test_references_are_no_values(self):
        self.assert_numbers("fn f(a: mut) { let x = ref a; let y = mut a; }", (0, 1, 2, 3, 4, 5))


class Dropped(Numbers):
    def test_drop_with_a_value_and_without(self):
        self.assert_numbers("fn f(a: own) { drop a; drop a; }", (0,), got=1, dropped=1)
        self.assert_numbers("fn f(a: own) { drop a; drop a; }", (0, 1, 2, 3), got=1, dropped=1)

    def test_drop_of_the_temporary_place(self):
        self.assert_numbers("fn f() { give(); }", ((0, "none"), 1, 2), got=1, dropped=1)

    def test_clear_of_a_variable_with_a_value_and_without(self):
        self.assert_numbers("fn f(a: own) { a = new; }", (0, 1), made=1, got=1, dropped=1)
        self.assert_numbers("fn f(a: own) { drop a; a = new; }", (0, 1, 2), made=1, got=1, dropped=1)
        self.assert_numbers("fn f(a: own) { let x = a; a = new; }", (0, 1, 2, 3), made=1, got=1, dropped=0)

    def test_end_of_a_variable_with_a_value_and_without(self):
        self.assert_numbers("fn f(a: own) { }", (0,), got=1, dropped=1)
        self.assert_numbers("fn f(a: own) { let x = a; }", (0, 1, 2, 3), got=1, dropped=1)
        self.assert_numbers("fn f(a: own) { let x = a; }", (0, 1), got=1, dropped=1)

    def test_what_got_a_value_without_there_being_one(self):
        self.assert_numbers("fn f(a: own) { drop a; let x = a; drop x; }", (0, 1, 2, 3, 4, 5), got=1, dropped=2)

    def test_clear_and_end_of_references_drop_nothing(self):
        self.assert_numbers("fn f(a: mut) { a = mut a; }", (0, 1, 2, 3, 4))
        self.assert_numbers("fn f(a: ref) { a = a; }", (0, 1, 2, 3, 4))
        self.assert_numbers("fn f(a: ref) { look(a); }", (0, (1, 0), 2))


class HandedOn(Numbers):
    def test_arguments(self):
        self.assert_numbers("fn f(a: own) { take(a); }", (0,), got=1)
        self.assert_numbers("fn f(a: own) { take(a); }", (0, (1, "none"), 2, 3), got=1, handed=1)

    def test_only_those_whose_parameter_is_an_owner(self):
        text = "fn f(a: own, b: ref, c: own) { let x = swap(a, b, c); }"
        self.assert_numbers(text, (0, 1, 2, (3, "none"), 4), got=3, dropped=1, handed=2)
        self.assert_numbers("fn f(a: ref) { look(a); }", (0, (1, 0), 2))

    def test_an_argument_without_a_value_counts(self):
        self.assert_numbers("fn f(a: own) { drop a; take(a); }", (0, 1, (2, "none"), 3), got=1, dropped=1, handed=1)

    def test_a_call_as_the_last_step(self):
        text = "fn f(a: own, b: ref, c: own) { let x = swap(a, b, c); }"
        self.assert_numbers(text, (0, 1, 2, 3), got=2, handed=0)
        self.assert_numbers("fn f() { let x = give(); take(x); }", ((0, "none"), 1, 2), got=1)

    def test_results(self):
        text = "fn f(a: own) -> own { return a; }"
        self.assert_numbers(text, (0, 1), got=1)
        self.assert_numbers(text, (0, 1, 2), got=1, handed=1)
        self.assert_numbers("fn f() -> own { let x = new; return x; }", (0, 1, 2, 3), made=1, handed=1)
        self.assert_numbers("fn f(a: ref) -> ref { return a; }", (0, 1, 2))
        self.assert_numbers("fn f(a: mut) -> mut { return a; }", (0, 1, 2))
        self.assert_numbers("fn f(a: own) { }", (0, 1), got=1, dropped=1)

    def test_what_others_are_handed(self):
        text = "fn f(a: own, b: ref, c: own) -> own { let x = swap(a, b, c); take(x); let y = give(); return y; }"
        run = (0, 1, 2, (3, "none"), 4, (5, "none"), (6, "none"), 7, 8, 9, 10, 11, 12, 13)
        self.assert_numbers(text, run[:13], got=4, handed=3)
        self.assert_numbers(text, run, got=4, handed=4)


if __name__ == "__main__":
    unittest.main()
