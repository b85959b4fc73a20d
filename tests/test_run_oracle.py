"""s2, s4 to s6, m1, m2: runs of many programs, compared with the words of the document."""

import random
import unittest

import makers
import oracle

from loancheck.errors import BadRun
from loancheck.rules import rule_fault
from loancheck.runs import all_runs, replay
from loancheck.states import after, first_state
from loancheck.summaries import outcomes, summary

ANY_OUTCOMES = ((), (0,), (1,), ("none",), (0, 1), (0, "none"), (0, 1, 2, "none"))


def programs(chance, many, maker):
    for _ in range(many):
        program = maker(chance)
        if rule_fault(program) is None:
            yield program


def walk(chance, told, known, most):
    """A run with at most so many steps, by chance; its last step has no outcome."""
    run = []
    node = 0
    while True:
        ways = told.ways(known, node)
        if not ways or len(run) + 1 >= most:
            return tuple(run) + ((node, None),)
        outcome, follower = chance.choice(ways)
        run.append((node, outcome))
        node = follower


def spoil(chance, run, nodes):
    """A run with one or two steps changed in some way, or as it was."""
    changed = list(run)
    for _ in range(chance.randrange(1, 3)):
        at = chance.randrange(len(run))
        node, outcome = changed[at]
        if chance.randrange(2):
            changed[at] = (chance.choice((node + 1, node - 1, chance.randrange(-1, nodes + 2))), outcome)
        else:
            changed[at] = (node, chance.choice((None, "none", 0, 1, 2, 3)))
    return tuple(changed)


class Replays(unittest.TestCase):
    def assert_replay(self, program, function, told, known, run):
        self.assertEqual(replay(program, function, known, run), told.replay(run))
        return told.problems(run)

    def test_runs_of_many_programs(self):
        chance = random.Random(41)
        seen = {"no value": 0, "conflict": 0}
        for maker in (makers.small_program, makers.strict_program, makers.flow_program):
            for program in programs(chance, 60, maker):
                known = {head[0]: chance.choice(ANY_OUTCOMES[1:]) for head in program}
                for function in range(len(program)):
                    told = oracle.Oracle(program, function)
                    for _ in range(3):
                        run = walk(chance, told, known, chance.randrange(1, 40))
                        for problem in self.assert_replay(program, function, told, known, run):
                            seen[problem[2]] += 1
        self.assertGreater(min(seen.values()), 100)

    def test_runs_cut_at_each_step(self):
        chance = random.Random(42)
        for program in programs(chance, 20, makers.small_program):
            known = {head[0]: chance.choice(ANY_OUTCOMES[1:]) for head in program}
            for function in range(len(program)):
                told = oracle.Oracle(program, function)
                run = walk(chance, told, known, 25)
                self.assert_replay(program, function, told, known, ())
                for many in range(1, len(run)):
                    cut = run[:many - 1] + ((run[many - 1][0], None),)
                    self.assert_replay(program, function, told, known, cut)

    def test_runs_that_are_not_possible(self):
        chance = random.Random(43)
        seen = {}
        for maker in (makers.small_program, makers.flow_program):
            for program in programs(chance, 60, maker):
                known = {head[0]: chance.choice(ANY_OUTCOMES) for head in program}
                for function in range(len(program)):
                    told = oracle.Oracle(program, function)
                    for _ in range(6):
                        run = spoil(chance, walk(chance, told, known, 12), len(told.nodes))
                        step = self.bad_step(program, function, known, run)
                        self.assertEqual(step, told.fault(known, run), (program[function], run))
                        seen[step] = seen.get(step, 0) + 1
        self.assertTrue(all(seen[step] > 20 for step in (None, 0, 1, 2, 3, 4)), seen)

    def bad_step(self, program, function, known, run):
        try:
            replay(program, function, known, run)
        except BadRun as bad:
            return bad.step
        return None


class AllRuns(unittest.TestCase):
    def test_all_runs_of_many_programs(self):
        chance = random.Random(44)
        many = 0
        for maker, most in ((makers.small_program, 14), (makers.flow_program, 23)):
            for program in programs(chance, 40, maker):
                known = {head[0]: chance.choice(ANY_OUTCOMES) for head in program}
                for function in range(len(program)):
                    told = oracle.Oracle(program, function)
                    for limit in (0, most // 2, most):
                        found = all_runs(program, function, known, limit)
                        self.assertEqual(found, told.runs(known, limit))
                    many += len(found)
                    for run in found[:5]:
                        self.assertTrue(replay(program, function, known, run)[0])
        self.assertGreater(many, 500)


class Outcomes(unittest.TestCase):
    def last_loans(self, program, function, run):
        state = first_state(program, function)
        for node, outcome in run:
            state = after(program, function, state, node, outcome)
        return [loan for place, loan in state[1] if place == "#r" and loan[0] == "param"]

    def ending(self, program, function, run):
        loans = self.last_loans(program, function, run)
        return [loan[1] for loan in loans] or ["none"]

    def test_each_outcome_belongs_to_a_complete_run_and_there_is_no_other(self):
        chance = random.Random(45)
        seen = {}
        for maker, many in ((makers.flow_program, 60), (makers.small_program, 120)):
            for program in programs(chance, many, maker):
                endings = oracle.all_endings(program)
                found = outcomes(program)
                self.assertEqual(found, {name: oracle.in_order(told) for name, told in endings.items()}, program)
                for function, head in enumerate(program):
                    seen[found[head[0]]] = seen.get(found[head[0]], 0) + 1
                    for outcome in found[head[0]]:
                        run = endings[head[0]][outcome]
                        self.assertTrue(replay(program, function, found, run)[0])
                        self.assertIn(outcome, self.ending(program, function, run))
        for told in ((), (0,), (1,), ("none",), (0, 1), (0, "none"), (0, 1, "none"), (0, 1, 2, "none")):
            self.assertGreater(seen.get(told, 0), 3, told)

    def test_no_complete_run_of_so_many_steps_ends_otherwise(self):
        chance = random.Random(46)
        many = 0
        for maker, most in ((makers.flow_program, 19), (makers.small_program, 12)):
            for program in programs(chance, 25, maker):
                found = outcomes(program)
                for function, head in enumerate(program):
                    for run in all_runs(program, function, found, most)[:20]:
                        many += 1
                        for ending in self.ending(program, function, run):
                            self.assertIn(ending, found[head[0]])
        self.assertGreater(many, 200)

    def test_a_function_without_outcomes_has_no_complete_run(self):
        chance = random.Random(47)
        many = 0
        for program in programs(chance, 60, makers.small_program):
            found = outcomes(program)
            for function, head in enumerate(program):
                told = found[head[0]]
                flows = tuple(outcome for outcome in told if outcome != "none")
                self.assertEqual(summary(program, function), (told != (), flows, "none" in told))
                if told == ():
                    many += 1
                    self.assertEqual(all_runs(program, function, found, 60), [])
        self.assertGreater(many, 50)


if __name__ == "__main__":
    unittest.main()
