"""a1, a2, k1 to k3, r1: many programs, compared with a search over all states of their runs."""

import random
import unittest

import oracle
import searcher
from livemaker import mixed_programs

from loancheck.check import check, drops, region
from loancheck.facts import facts
from loancheck.runs import replay
from loancheck.shortest import shortest
from loancheck.summaries import outcomes


class Search(unittest.TestCase):
    def test_facts(self):
        seen = {"never": 0, "both": 0, "loans": 0, "later": 0}
        for program in mixed_programs(61, 150):
            for number, told in enumerate(searcher.searchers(program)):
                rows = facts(program, number)
                self.assertEqual(rows, told.facts(), program)
                for reached, has, lacks, holds, later in rows:
                    seen["never"] += not reached
                    seen["both"] += bool(set(has) & set(lacks))
                    seen["loans"] += len({loan for place, loan in holds}) > 2
                    seen["later"] += len(later) > 2
        self.assertGreater(min(seen.values()), 300, seen)

    def test_problems(self):
        seen = {"none": 0, "no value": 0, "conflict": 0}
        for program in mixed_programs(62, 300):
            expected = [problem for told in searcher.searchers(program) for problem in told.check()]
            found = check(program)
            self.assertEqual(found, expected, program)
            self.assertEqual(len(set(found)), len(found))
            seen["none"] += found == []
            for problem in found:
                seen[problem[2]] += 1
        self.assertGreater(min(seen.values()), 50, seen)

    def test_regions(self):
        many = 0
        for program in mixed_programs(63, 150):
            for number, told in enumerate(searcher.searchers(program)):
                for node, (operation, _) in enumerate(told.nodes):
                    if operation[0] == "borrow":
                        found = region(program, number, node)
                        self.assertEqual(found, told.region(node), (program, number, node))
                        many += len(found) > 2
        self.assertGreater(many, 100)

    def test_drops(self):
        seen = {"always": 0, "never": 0, "sometimes": 0, "unreachable": 0}
        for program in mixed_programs(64, 300):
            for number, told in enumerate(searcher.searchers(program)):
                found = drops(program, number)
                self.assertEqual(found, told.drops(), program)
                for node, variable, word in found:
                    seen[word] += 1
        self.assertGreater(min(seen.values()), 50, seen)

    def test_shortest(self):
        seen = {"no value": 0, "conflict": 0, "long": 0, "with outcomes": 0}
        for program in mixed_programs(65, 200):
            searchers = {told.name: told for told in searcher.searchers(program)}
            for problem in check(program):
                run = shortest(program, problem)
                self.assertEqual(run, searchers[problem[0]].shortest(problem), (program, problem))
                seen[problem[2]] += 1
                seen["long"] += len(run) > 12
                seen["with outcomes"] += any(outcome is not None for node, outcome in run)
        self.assertGreater(min(seen.values()), 30, seen)


class Runs(unittest.TestCase):
    """The same by single runs: replay tells what each of them commits."""

    def test_what_is_told_is_what_runs_commit(self):
        seen = {"no value": 0, "conflict": 0}
        for program in mixed_programs(66, 150):
            found = check(program)
            known = outcomes(program)
            names = [head[0] for head in program]
            for problem in found:
                run = shortest(program, problem)
                self.assertIn(problem, replay(program, names.index(problem[0]), known, run)[1])
                seen[problem[2]] += 1
            for number in range(len(program)):
                told = oracle.Oracle(program, number)
                for run in self.walks(told, known):
                    for problem in replay(program, number, known, run)[1]:
                        self.assertIn(problem, found, (program, run))
        self.assertGreater(min(seen.values()), 30, seen)

    def walks(self, told, known):
        chance = random.Random(67)
        for _ in range(4):
            run = []
            node = 0
            ways = told.ways(known, node)
            while ways and len(run) < 30:
                outcome, follower = chance.choice(ways)
                run.append((node, outcome))
                node = follower
                ways = told.ways(known, node)
            yield tuple(run) + ((node, None),)

    def test_no_run_with_fewer_steps_and_none_ahead_commits_the_problem(self):
        many = 0
        for program in mixed_programs(68, 200):
            known = outcomes(program)
            for problem in check(program):
                number = [head[0] for head in program].index(problem[0])
                run = shortest(program, problem)
                if len(run) <= 9:
                    found = self.first_run(program, number, known, problem, len(run))
                    self.assertEqual(run, found, (program, problem))
                    many += 1
        self.assertGreater(many, 100)

    def first_run(self, program, number, known, problem, most):
        """All runs are tried, one after the other: those with fewer steps first, and of as many in their order."""
        told = oracle.Oracle(program, number)
        runs = [()]
        for _ in range(most):
            found = []
            for run in runs:
                if not run:
                    found.append(((0, None),))
                else:
                    node = run[-1][0]
                    for outcome, follower in told.ways(known, node):
                        found.append(run[:-1] + ((node, outcome), (follower, None)))
            runs = sorted(found, key=lambda run: [(node, oracle.run_rank(outcome)) for node, outcome in run])
            for run in runs:
                if problem in replay(program, number, known, run)[1]:
                    return run
        return None


if __name__ == "__main__":
    unittest.main()
