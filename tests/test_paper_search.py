"""p1 to p4: papers of many programs, compared with searches over whole states, and with the words of p2."""

import random
import unittest

import oracle
import searcher
from livemaker import mixed_programs
from paperwork import PARTS, adding, fault, with_outcomes, with_row, without

from loancheck.check import check
from loancheck.papers import make_paper

ANY_OUTCOMES = (0, 1, 2, "none")


def changes(chance, program, paper):
    """A paper with one to three small changes of all kinds."""
    for _ in range(chance.randrange(1, 4)):
        function = chance.randrange(len(program))
        node = chance.randrange(len(paper[function][1]))
        choice = chance.randrange(12)
        if choice == 0:
            told = [outcome for outcome in ANY_OUTCOMES if (outcome in paper[function][0]) == (chance.randrange(4) > 0)]
            paper = with_outcomes(paper, function, *told)
        elif choice == 1:
            paper = with_row(paper, function, node, None)
        elif choice == 2:
            paper = with_row(paper, function, node, chance.choice(paper[function][1]))
        elif paper[function][1][node] is not None:
            part = chance.choice(PARTS)
            items = paper[function][1][node][PARTS.index(part)]
            if choice < 6 and items:
                paper = without(paper, function, node, part, chance.choice(items))
            else:
                paper = adding(paper, function, node, part, some_item(chance, program, function, part))
    return paper


def some_item(chance, program, function, part):
    place = chance.choice(oracle.Oracle(program, function).order)
    if part != "holds":
        return place
    return (place, chance.choice((("none",), ("param", chance.randrange(4)), ("node", chance.randrange(30)))))


class Made(unittest.TestCase):
    def test_it_tells_just_what_is_so_and_is_right_just_if_there_are_no_problems(self):
        seen = {True: 0, False: 0}
        for program in mixed_programs(71, 180):
            paper = make_paper(program)
            self.assertEqual(paper, searcher.paper_of(program), program)
            found = check(program)
            expected = None
            if found:
                expected = ([head[0] for head in program].index(found[0][0]), found[0][1])
            self.assertEqual(fault(program, paper), expected, program)
            seen[found == []] += 1
        self.assertGreater(min(seen.values()), 30, seen)

    def test_it_is_the_least_one(self):
        """Whatever is taken out of it, it is not right any more."""
        many = 0
        for program in mixed_programs(72, 90):
            paper = make_paper(program)
            if check(program) == []:
                for function, (outcomes, rows) in enumerate(paper):
                    self.assert_refused_without(program, paper, function, outcomes, rows)
                many += 1
        self.assertGreater(many, 10)

    def assert_refused_without(self, program, paper, function, outcomes, rows):
        chance = random.Random(73)
        for outcome in outcomes:
            left = [other for other in outcomes if other != outcome]
            self.assertIsNotNone(fault(program, with_outcomes(paper, function, *left)))
        for node, row in enumerate(rows):
            if row is not None:
                self.assertIsNotNone(fault(program, with_row(paper, function, node, None)))
                for part, items in zip(PARTS, row):
                    for item in chance.sample(items, min(3, len(items))):
                        wrong = without(paper, function, node, part, item)
                        self.assertEqual(fault(program, wrong), searcher.paper_fault(program, wrong))
                        self.assertIsNotNone(fault(program, wrong), (program, function, node, item))


class Changed(unittest.TestCase):
    def test_papers_that_were_changed(self):
        chance = random.Random(74)
        seen = {None: 0}
        for program in mixed_programs(75, 120):
            paper = make_paper(program)
            for _ in range(10):
                wrong = changes(chance, program, paper)
                expected = searcher.paper_fault(program, wrong)
                self.assertEqual(fault(program, wrong), expected, (program, wrong))
                if expected is None:
                    seen[None] += 1
                else:
                    failed = searcher.PaperReader(program, expected[0], wrong).faults()[expected[1]]
                    for condition in failed:
                        seen[condition] = seen.get(condition, 0) + 1
        self.assertGreater(min(seen[key] for key in (None, 1, 2, 3, 4, 5)), 10, seen)

    def test_a_program_with_problems_has_no_right_paper(self):
        """The paper that is made is refused, however it is changed."""
        chance = random.Random(76)
        many = 0
        for program in mixed_programs(77, 100):
            if check(program):
                paper = make_paper(program)
                for _ in range(10):
                    self.assertIsNotNone(fault(program, changes(chance, program, paper)), program)
                    many += 1
        self.assertGreater(many, 300)

    def test_papers_of_other_programs(self):
        found = mixed_programs(78, 30)
        many = 0
        for one in found:
            for other in found:
                paper = make_paper(other)
                expected = searcher.paper_fault(one, paper)
                self.assertEqual(fault(one, paper), expected)
                many += expected is not None and expected[1] is not None
        self.assertGreater(many, 10)


if __name__ == "__main__":
    unittest.main()
