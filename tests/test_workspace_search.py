"""w1 to w3: many edits of all kinds, compared with a model that keeps each program that there was."""

import random
import unittest

import livemaker
import makers

from loancheck.check import check
from loancheck.errors import BadArgument, BadEdit, BadText
from loancheck.journal import replay_journal
from loancheck.reading import parse_text
from loancheck.rules import rule_fault
from loancheck.summaries import summary
from loancheck.workspace import Workspace
from loancheck.writing import program_text

NAMES = ("keep", "both", "one", "use", "main", "f", "g")


class Model:
    """A workspace by the words of the document: all programs that there were, and what was done."""

    def __init__(self):
        self.programs = [()]
        self.lines = []

    def edit(self, word, argument):
        """The reason why an edit is refused, or None."""
        if word == "undo":
            if len(self.programs) == 1:
                return "nothing to undo"
            self.programs.pop()
            self.lines.append("undo")
            return None
        program = self.programs[-1]
        if word == "remove":
            if argument not in [function[0] for function in program]:
                return "unknown function"
            program = tuple(function for function in program if function[0] != argument)
            line = "remove " + argument
        else:
            try:
                put = parse_text(argument)
            except BadText:
                put = ()
            if len(put) != 1:
                return "no function"
            names = [function[0] for function in program]
            if put[0][0] in names:
                at = names.index(put[0][0])
                program = program[:at] + put + program[at + 1:]
            else:
                program = program + put
            line = "put " + spaced(argument)
        fault = rule_fault(program)
        if fault is not None:
            return fault[2]
        self.programs.append(program)
        self.lines.append(line)
        return None

    def told(self):
        program = self.programs[-1]
        found = check(program)
        return {
            head[0]: ([problem[1:] for problem in found if problem[0] == head[0]], summary(program, number))
            for number, head in enumerate(program)
        }


def spaced(text):
    """A text with one space between two of its tokens."""
    for sign in ("->", "{", "}", "(", ")", ",", ";", ":", "="):
        text = text.replace(sign, f" {sign} ")
    return " ".join(text.split())


def some_edit(chance, program):
    """A pair (word, argument)."""
    choice = chance.randrange(12)
    if choice == 0:
        return ("undo", None)
    if choice == 1:
        return ("remove", chance.choice(NAMES))
    if choice == 2:
        return ("put", chance.choice(("", "fn f", "fn f() { } fn g() { }", "fn f() { x(); }", "fn f() { read x; }")))
    if choice < 5 and program:
        return ("put", squeezed(chance, program_text((chance.choice(program),))))
    if choice < 7 and program:
        return ("put", makers.text_of((changed(chance, chance.choice(program)),)))
    return ("put", makers.text_of((chance.choice(livemaker.live_program(chance)),)))


def squeezed(chance, text):
    return text.replace("\n", chance.choice((" ", "\n\n", "  "))).replace("; ", ";").replace(" {", "{")


def changed(chance, function):
    """The function without one of the statements of its body."""
    name, parameters, result, body = function
    if not body:
        return function
    at = chance.randrange(len(body))
    return (name, parameters, result, body[:at] + body[at + 1:])


class Edits(unittest.TestCase):
    def test_many_edits(self):
        chance = random.Random(91)
        seen = {"affected": 0, "not affected": 0, "several": 0, "undo": 0, "remove": 0, "refused": 0}
        for _ in range(60):
            space = Workspace()
            model = Model()
            for _ in range(30):
                word, argument = some_edit(chance, model.programs[-1])
                before = model.told()
                reason = model.edit(word, argument)
                told = self.edit(space, word, argument)
                if reason is None:
                    self.assertEqual(told, self.affected(before, model), (model.lines, word, argument))
                    seen["affected" if told else "not affected"] += 1
                    seen["several"] += len(told) > 1
                    seen[word] = seen.get(word, 0) + 1
                else:
                    self.assertEqual(told, reason, (word, argument))
                    seen["refused"] += 1
                self.assert_same(space, model)
            self.assertEqual(replay_journal(space.journal()).program(), model.programs[-1])
        self.assertGreater(min(seen.values()), 10, seen)

    def edit(self, space, word, argument):
        """Whom an edit affects, or the reason why it is refused."""
        try:
            if word == "undo":
                return space.undo()
            return space.put(argument) if word == "put" else space.remove(argument)
        except BadEdit as bad:
            return bad.reason

    def affected(self, before, model):
        now = model.told()
        return [head[0] for head in model.programs[-1] if before.get(head[0]) != now[head[0]]]

    def assert_same(self, space, model):
        program = model.programs[-1]
        self.assertEqual(space.program(), program)
        self.assertEqual(space.text(), program_text(program))
        self.assertEqual(space.journal(), "".join(line + "\n" for line in model.lines))
        told = model.told()
        for name in NAMES:
            if name in told:
                self.assertEqual(space.report(name), [(name, *problem) for problem in told[name][0]])
            else:
                with self.assertRaises(BadArgument):
                    space.report(name)

    def test_each_beginning_of_a_journal(self):
        chance = random.Random(92)
        for _ in range(6):
            space = Workspace()
            model = Model()
            behind = [()]
            for _ in range(12):
                edit = some_edit(chance, model.programs[-1])
                if model.edit(*edit) is None:
                    self.edit(space, *edit)
                    behind.append(model.programs[-1])
            text = space.journal()
            for end in range(len(text) + 1):
                again = replay_journal(text[:end])
                whole = text[:end].count("\n")
                self.assertEqual(again.program(), behind[whole])
                self.assertEqual(again.journal(), text[:text[:end].rfind("\n") + 1])


if __name__ == "__main__":
    unittest.main()
