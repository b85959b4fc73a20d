"""b3: what the machine does with codes, written by hand as well as made."""

import unittest

from loancheck.cells import make_code
from loancheck.machine import run
from loancheck.reading import parse_program

# x and y are owners, r and s references.
TEXT = "fn main() { let x = new; let y = new; let r = ref x; let s = mut x; }"
LEAVE = ("leave",)


def take(cell):
    return ("take", cell)


class Machine(unittest.TestCase):
    def assert_run(self, code, ended, *events, choices=(), most=99):
        self.assert_codes(TEXT, {"main": tuple(code)}, ended, *events, choices=choices, most=most)

    def assert_codes(self, text, codes, ended, *events, choices=(), most=99, name="main"):
        program = parse_program(text)
        before = (program, dict(codes), tuple(choices))
        self.assertEqual(run(program, codes, name, choices, most), (ended, events))
        self.assertEqual((program, codes, choices), before)

    def assert_done(self, code, events):
        """A code to which a leave is added, and the events."""
        self.assert_run((*code, LEAVE), "done", *events)

    def assert_bad(self, code, *events):
        """A code whose last instruction is bad: nothing happens behind it."""
        self.assert_run((*code, ("take", "y"), LEAVE), "bad", *events)


class Document(unittest.TestCase):
    def test_document(self):
        program = parse_program(
            "fn take(a: own) { if { drop a; } } fn main() { let x = new; let r = ref x; read r; take(x); }"
        )
        found = run(program, make_code(program), "main", (1,), 99)
        self.assertEqual(found, ("done", (("take", 0), ("read", 0), ("free", 0))))
        self.assertEqual(run(program, make_code(program), "main", (0,), 99), found)
        self.assertIsInstance(found[1], tuple)


class Cells(Machine):
    def test_take(self):
        self.assert_done((("take", "x"), ("take", "y"), ("take", "x"), ("read", "x"), ("read", "y")),
                         (take(0), take(1), take(2), ("read", 2), ("read", 1)))

    def test_read_write_and_free(self):
        self.assert_done((("take", "x"), ("write", "x"), ("read", "x"), ("free", "x")),
                         (take(0), ("write", 0), ("read", 0), ("free", 0)))

    def test_numbers_are_not_used_again(self):
        self.assert_done((("take", "x"), ("free", "x"), ("take", "x"), ("free", "x")),
                         (take(0), ("free", 0), take(1), ("free", 1)))

    def test_move(self):
        self.assert_done((("take", "x"), ("move", "y", "x"), ("read", "y")), (take(0), ("read", 0)))
        self.assert_bad((("take", "x"), ("move", "y", "x"), ("read", "x")), take(0))

    def test_move_of_what_points(self):
        self.assert_done((("take", "x"), ("point", "r", "x"), ("move", "s", "r"), ("write", "s")), (take(0), ("write", 0)))
        self.assert_bad((("take", "x"), ("point", "r", "x"), ("move", "s", "r"), ("read", "r")), take(0))

    def test_copy(self):
        self.assert_done((("take", "x"), ("point", "r", "x"), ("copy", "s", "r"), ("read", "s"), ("read", "r")),
                         (take(0), ("read", 0), ("read", 0)))
        self.assert_done((("take", "x"), ("copy", "y", "x"), ("read", "x"), ("read", "y")),
                         (take(0), ("read", 0), ("read", 0)))

    def test_empty(self):
        self.assert_bad((("take", "x"), ("empty", "x"), ("read", "x")), take(0))
        self.assert_done((("take", "x"), ("copy", "y", "x"), ("empty", "x"), ("read", "y"), ("empty", "r")),
                         (take(0), ("read", 0)))

    def test_a_free_makes_the_place_empty(self):
        self.assert_bad((("take", "x"), ("free", "x"), ("read", "x")), take(0), ("free", 0))
        self.assert_done((("take", "x"), ("free", "x"), ("move", "y", "x")), (take(0), ("free", 0)))


class Points(Machine):
    def test_at_an_owner(self):
        self.assert_done((("take", "x"), ("point", "r", "x"), ("read", "r"), ("write", "r")),
                         (take(0), ("read", 0), ("write", 0)))

    def test_at_the_place_not_at_its_cell(self):
        self.assert_done((("point", "r", "x"), ("take", "x"), ("read", "r"), ("take", "x"), ("read", "r")),
                         (take(0), ("read", 0), take(1), ("read", 1)))

    def test_where_a_reference_points(self):
        self.assert_done((("take", "x"), ("point", "r", "x"), ("point", "s", "r"), ("empty", "r"), ("read", "s")),
                         (take(0), ("read", 0)))
        self.assert_done((("take", "x"), ("take", "y"), ("point", "r", "x"), ("point", "s", "r"), ("point", "r", "y"),
                          ("read", "s"), ("read", "r")), (take(0), take(1), ("read", 0), ("read", 1)))

    def test_other_places_are_no_variables(self):
        self.assert_done((("take", "x"), ("point", "#t", "x"), ("point", "#0", "#t"), ("move", "r", "#0"), ("read", "r")),
                         (take(0), ("read", 0)))

    def test_a_place_that_points_on(self):
        self.assert_done((("take", "x"), ("point", "r", "x"), ("move", "y", "r"), ("point", "s", "y"), ("read", "s")),
                         (take(0), ("read", 0)))

    def test_places_that_point_at_one_another(self):
        self.assert_bad((("point", "r", "x"), ("move", "x", "r"), ("read", "x")))
        self.assert_bad((("point", "r", "x"), ("point", "s", "y"), ("move", "x", "s"), ("move", "y", "r"), ("read", "x")))

    def test_a_free_of_a_place_that_points(self):
        begin = (("take", "x"), ("point", "r", "x"), ("free", "r"))
        self.assert_done(begin, (take(0), ("free", 0)))
        self.assert_bad((*begin, ("read", "r")), take(0), ("free", 0))
        self.assert_bad((*begin, ("read", "x")), take(0), ("free", 0))

    def test_into_the_frame_of_a_caller(self):
        text = "fn main() { let x = new; g(mut x); } fn g(a: mut) { let r = a; }"
        codes = {
            "main": (("take", "x"), ("point", "#0", "x"), ("call", "g", None, 1), ("read", "x"), LEAVE),
            "g": (("point", "r", "a"), ("write", "r"), ("read", "a"), LEAVE),
        }
        self.assert_codes(text, codes, "done", take(0), ("write", 0), ("read", 0), ("read", 0))


class Bad(Machine):
    WORDS = ("read", "write", "free")

    def test_an_empty_place(self):
        for word in self.WORDS:
            self.assert_bad(((word, "x"),))
            self.assert_bad((("take", "x"), (word, "y")), take(0))
            self.assert_bad(((word, "#0"),))

    def test_a_place_that_points_to_an_empty_one(self):
        for word in self.WORDS:
            self.assert_bad((("point", "r", "x"), (word, "r")))
            self.assert_bad((("take", "x"), ("point", "r", "x"), ("move", "y", "x"), (word, "r")), take(0))
            self.assert_bad((("take", "x"), ("point", "r", "x"), ("free", "x"), (word, "r")), take(0), ("free", 0))

    def test_a_cell_that_was_freed(self):
        for word in self.WORDS:
            self.assert_bad((("take", "x"), ("copy", "y", "x"), ("free", "x"), (word, "y")), take(0), ("free", 0))
            self.assert_bad((("take", "x"), ("copy", "y", "x"), ("point", "r", "x"), ("free", "y"), (word, "r")),
                            take(0), ("free", 0))

    def test_freed_twice(self):
        self.assert_bad((("take", "x"), ("free", "x"), ("free", "x")), take(0), ("free", 0))

    def test_a_place_of_a_frame_that_has_ended(self):
        text = "fn main() { let r = g(); } fn g() -> ref { let x = new; let r = ref x; return r; }"
        for word in self.WORDS:
            codes = {
                "main": (("call", "g", "r", 0), (word, "r"), ("take", "#t"), LEAVE),
                "g": (("take", "x"), ("point", "#r", "x"), LEAVE),
            }
            self.assert_codes(text, codes, "bad", take(0))

    def test_another_frame_of_the_same_function(self):
        """The place has a name that lives again in the next frame."""
        text = "fn main() { let r = g(); g(); } fn g() -> ref { let x = new; let r = ref x; return r; }"
        codes = {
            "main": (("call", "g", "r", 0), ("point", "#0", "r"), ("call", "g", "#t", 0), ("read", "#0"), LEAVE),
            "g": (("take", "x"), ("point", "#r", "x"), LEAVE),
        }
        self.assert_codes(text, codes, "bad", take(0), take(1))

    def test_in_a_frame_that_is_called(self):
        text = "fn main() { g(); } fn g() { let x = new; }"
        codes = {"main": (("call", "g", None, 0), ("take", "#t"), LEAVE), "g": (("take", "x"), ("read", "#0"), LEAVE)}
        self.assert_codes(text, codes, "bad", take(0))

    def test_what_is_empty_is_moved_copied_and_pointed_at_all_the_same(self):
        self.assert_done((("move", "y", "x"), ("copy", "y", "x"), ("point", "r", "x"), ("point", "s", "#t"), ("empty", "x")), ())
        for word in ("move", "copy"):
            self.assert_bad((("take", "y"), (word, "y", "x"), ("read", "y")), take(0))
        self.assert_bad((("take", "x"), ("point", "r", "x"), ("point", "r", "s"), ("read", "r")), take(0))


class Flags(Machine):
    def test_flag_and_unless(self):
        code = (("unless", "x", 2), ("take", "x"), LEAVE)
        self.assert_run(code, "done")
        self.assert_run((("flag", "x", True), ("unless", "x", 3), ("take", "x"), LEAVE), "done", take(0))
        self.assert_run((("flag", "x", True), ("flag", "x", False), ("unless", "x", 4), ("take", "x"), LEAVE), "done")

    def test_each_place_has_a_flag_of_its_own(self):
        self.assert_run((("flag", "x", True), ("unless", "y", 3), ("take", "x"), LEAVE), "done")

    def test_flags_and_values_are_two_things(self):
        self.assert_run((("take", "x"), ("unless", "x", 3), ("take", "y"), LEAVE), "done", take(0))
        self.assert_run((("flag", "x", True), ("move", "y", "x"), ("unless", "x", 4), ("take", "y"), LEAVE), "done", take(0))

    def test_those_of_parameters_are_true_at_the_beginning_of_a_frame(self):
        text = "fn main() { } fn g(a: own, b: ref) { let x = new; }"
        code = (("unless", "a", 2), ("take", "a"), ("unless", "b", 4), ("take", "b"), ("unless", "x", 6), ("take", "x"), LEAVE)
        codes = {"main": (("call", "g", None, 2), LEAVE), "g": code}
        self.assert_codes(text, codes, "done", take(0), take(1))

    def test_of_each_frame_anew(self):
        text = "fn main() { } fn g(a: own) { let x = new; }"
        code = (("unless", "x", 2), ("take", "x"), ("unless", "a", 4), ("take", "a"), ("flag", "x", True),
                ("flag", "a", False), LEAVE)
        codes = {"main": (("call", "g", None, 1), ("call", "g", None, 1), LEAVE), "g": code}
        self.assert_codes(text, codes, "done", take(0), take(1))


class Jumps(Machine):
    CODE = (("choose", 3), ("take", "x"), LEAVE, ("choose", 0), ("take", "y"), ("write", "y"), LEAVE)

    def test_choose(self):
        self.assert_run(self.CODE, "done", take(0), choices=(0,))
        self.assert_run(self.CODE, "done", take(0), ("write", 0), choices=(1, 0))
        self.assert_run(self.CODE, "done", take(0), choices=(1, 1, 0))

    def test_choices_behind_the_last_one(self):
        self.assert_run(self.CODE, "done", take(0), choices=())
        self.assert_run(self.CODE, "done", take(0), ("write", 0), choices=(1,))
        self.assert_run(self.CODE, "done", take(0), choices=(1, 1))

    def test_choices_that_are_left_over(self):
        self.assert_run(self.CODE, "done", take(0), choices=(0, 1, 1, 1))
        self.assert_run((LEAVE,), "done", choices=(1, 0))

    def test_jump(self):
        self.assert_run((("jump", 2), ("take", "x"), ("take", "y"), LEAVE), "done", take(0))
        self.assert_run((("jump", 3), ("take", "x"), LEAVE, ("jump", 1)), "done", take(0))


class Calls(Machine):
    TEXT = "fn main() { } fn g(a: own, b: ref) -> own { let x = new; return x; }"

    def test_arguments_are_handed_over(self):
        codes = {
            "main": (("take", "#0"), ("take", "#t"), ("call", "g", None, 1), ("read", "#t"), LEAVE),
            "g": (("read", "a"), ("free", "a"), LEAVE),
        }
        self.assert_codes(self.TEXT, codes, "done", take(0), take(1), ("read", 0), ("free", 0), ("read", 1))

    def test_the_arguments_are_empty_then(self):
        for place in ("#0", "#1"):
            codes = {
                "main": (("take", "#0"), ("take", "#1"), ("call", "g", None, 2), ("read", place), LEAVE),
                "g": (("read", "b"), ("read", "a"), LEAVE),
            }
            self.assert_codes(self.TEXT, codes, "bad", take(0), take(1), ("read", 1), ("read", 0))

    def test_others_are_not(self):
        codes = {"main": (("take", "#1"), ("call", "g", None, 1), ("read", "#1"), LEAVE), "g": (LEAVE,)}
        self.assert_codes(self.TEXT, codes, "done", take(0), ("read", 0))

    def test_a_result(self):
        codes = {"main": (("call", "g", "#t", 0), ("free", "#t"), LEAVE), "g": (("take", "#r"), LEAVE)}
        self.assert_codes(self.TEXT, codes, "done", take(0), ("free", 0))
        codes = {"main": (("take", "#r"), ("call", "g", "#t", 0), ("read", "#r"), LEAVE), "g": (("take", "#r"), LEAVE)}
        self.assert_codes(self.TEXT, codes, "done", take(0), take(1), ("read", 0))

    def test_a_result_that_is_empty(self):
        codes = {"main": (("take", "#t"), ("call", "g", "#t", 0), ("free", "#t"), LEAVE), "g": (LEAVE,)}
        self.assert_codes(self.TEXT, codes, "bad", take(0))

    def test_no_target(self):
        codes = {"main": (("take", "#t"), ("call", "g", None, 0), ("free", "#t"), LEAVE), "g": (("take", "#r"), LEAVE)}
        self.assert_codes(self.TEXT, codes, "done", take(0), take(1), ("free", 0))

    def test_places_of_frames_are_their_own(self):
        codes = {"main": (("take", "x"), ("call", "g", None, 0), ("read", "x"), LEAVE), "g": (("take", "x"), ("free", "x"), LEAVE)}
        self.assert_codes(self.TEXT, codes, "done", take(0), take(1), ("free", 1), ("read", 0))
        codes = {"main": (("take", "x"), ("call", "g", None, 0), LEAVE), "g": (("read", "x"), LEAVE)}
        self.assert_codes(self.TEXT, codes, "bad", take(0))

    def test_it_goes_on_behind_the_call(self):
        codes = {
            "main": (("choose", 2), ("take", "x"), ("call", "g", "x", 0), ("choose", 0), ("read", "x"), LEAVE),
            "g": (("choose", 2), LEAVE, ("take", "#r"), LEAVE),
        }
        self.assert_codes(self.TEXT, codes, "done", take(0), take(1), ("read", 1), choices=(0, 0, 1, 1, 1))

    def test_it_calls_itself(self):
        text = "fn main() -> own { let x = new; return x; }"
        codes = {"main": (("choose", 4), ("call", "main", "x", 0), ("move", "#r", "x"), LEAVE, ("take", "#r"), LEAVE)}
        for deep in (0, 1, 2, 1000):
            self.assert_codes(text, codes, "done", take(0), choices=(0,) * deep + (1,), most=5000)

    def test_hundreds_of_frames(self):
        text = "fn main() { main(); }"
        self.assert_codes(text, make_code(parse_program(text)), "long", most=20000)
        text = "fn main() { let x = new; main(); }"
        codes = make_code(parse_program(text))
        self.assert_codes(text, codes, "long", *[take(number) for number in range(1000)], most=2000)

    def test_it_hands_a_reference_down_many_frames(self):
        program = parse_program("fn main() { let x = new; g(mut x); } fn g(a: mut) { if { g(mut a); } write a; }")
        found = run(program, make_code(program), "main", (0,) * 500 + (1,), 99999)
        self.assertEqual(found, ("done", (take(0), *[("write", 0)] * 501, ("free", 0))))

    def test_another_first_function(self):
        text = "fn g() { main(); } fn main() { }"
        codes = {"g": (("take", "#t"), ("call", "main", None, 0), ("take", "#t"), LEAVE), "main": (("take", "#t"), LEAVE)}
        self.assert_codes(text, codes, "done", take(0), take(1), take(2), name="g")
        self.assert_codes(text, codes, "done", take(0), name="main")


class Most(Machine):
    CODE = (("take", "x"), ("read", "x"), ("free", "x"), LEAVE)
    EVENTS = (take(0), ("read", 0), ("free", 0))

    def test_fewer_instructions(self):
        for most in range(4):
            self.assert_run(self.CODE, "long", *self.EVENTS[:most], most=most)

    def test_done_by_the_last_of_so_many(self):
        self.assert_run(self.CODE, "done", *self.EVENTS, most=4)
        self.assert_run(self.CODE, "done", *self.EVENTS, most=5)

    def test_none_at_all(self):
        self.assert_run((LEAVE,), "long", most=0)
        self.assert_run((("read", "x"),), "long", most=0)
        self.assert_run((LEAVE,), "done", most=1)

    def test_bad_by_the_last_of_so_many(self):
        self.assert_run((("take", "x"), ("read", "y"), LEAVE), "bad", take(0), most=2)
        self.assert_run((("take", "x"), ("read", "y"), LEAVE), "long", take(0), most=1)

    def test_each_instruction_counts(self):
        code = (("flag", "x", True), ("unless", "x", 0), ("choose", 0), ("empty", "r"), ("jump", 5), LEAVE)
        for most in range(6):
            self.assert_run(code, "long", most=most)
        self.assert_run(code, "done", most=6)

    def test_those_of_all_frames_count(self):
        text = "fn main() { g(); } fn g() { }"
        codes = {"main": (("call", "g", None, 0), LEAVE), "g": (LEAVE,)}
        self.assert_codes(text, codes, "long", most=2)
        self.assert_codes(text, codes, "done", most=3)

    def test_round_and_round(self):
        self.assert_run((("take", "x"), ("free", "x"), ("jump", 0)), "long",
                        take(0), ("free", 0), take(1), ("free", 1), take(2), most=7)
        self.assert_run((("jump", 0),), "long", most=50000)


if __name__ == "__main__":
    unittest.main()
