"""What is so of programs in some run, by a search over whole states of runs, and over papers by the words of p2.

Like oracle.py, on which it stands, it takes nothing from the package but graphs, and is there to compare with.
"""

import oracle


class Searcher(oracle.Oracle):
    """Looks at one function: outcomes tells those of all functions."""

    def __init__(self, program, function, outcomes):
        oracle.Oracle.__init__(self, program, function)
        self.outcomes = outcomes
        self.found = self.search()

    def search(self):
        """For each node the whole states that there are ahead of it, by how they are told."""
        found = [{} for _ in self.nodes]
        waiting = [(0, self.start())]
        while waiting:
            node, state = waiting.pop()
            if self.tell_state(state) not in found[node]:
                found[node][self.tell_state(state)] = state
                for outcome, follower in self.ways(self.outcomes, node):
                    waiting.append((follower, self.behind(state, node, outcome)))
        return found

    def later_from(self, node, place):
        """Whether a place is used later, from a node on, in some run that goes on from it."""
        seen = set()
        waiting = [node]
        while waiting:
            at = waiting.pop()
            if place in self.used(at):
                return True
            if at not in seen and place not in self.cleared(at):
                waiting.extend(follower for outcome, follower in self.ways(self.outcomes, at))
            seen.add(at)
        return False

    def later_behind(self, node, place):
        return any(self.later_from(follower, place) for outcome, follower in self.ways(self.outcomes, node))

    # Facts (a1)

    def facts(self):
        return tuple(self.facts_at(node) for node in range(len(self.nodes)))

    def facts_at(self, node):
        states = self.found[node]
        held = {pair for values, pairs in states for pair in pairs}
        return (
            bool(states),
            tuple(place for place in self.order if any(place in values for values, _ in states)),
            tuple(place for place in self.order if any(place not in values for values, _ in states)),
            tuple(sorted(held, key=self.pair_rank)),
            tuple(place for place in self.order if states and self.later_from(node, place)),
        )

    def pair_rank(self, pair):
        place, loan = pair
        return (self.order.index(place), ("param", "node", "none").index(loan[0]), loan[1:])

    # Problems (k1), regions (k2), drops (k3)

    def check(self):
        found = []
        for node in range(len(self.nodes)):
            for place in self.order:
                if place in self.used(node) & set(self.kinds) and any(place not in values for values, _ in self.found[node]):
                    found.append((self.name, node, "no value", place, None))
            for maker, (operation, _) in enumerate(self.nodes):
                if operation[0] == "borrow" and self.conflicts_at(node, maker):
                    found.append((self.name, node, "conflict", operation[2], maker))
        return found

    def conflicts_at(self, node, maker):
        _, _, source, mode = self.nodes[maker][0]
        access = self.accessed(node)
        if access not in ((source, "write"), (source, "read" if mode == "mut" else "write")):
            return False
        return any(
            place != self.put(node) and loan == ("node", maker) and self.later_behind(node, place)
            for _, pairs in self.found[node] for place, loan in pairs
        )

    def region(self, maker):
        return [
            node for node, states in enumerate(self.found)
            if any(loan == ("node", maker) and self.later_from(node, place) for _, pairs in states for place, loan in pairs)
        ]

    def drops(self):
        found = []
        for node, (operation, _) in enumerate(self.nodes):
            if operation[0] in ("clear", "end") and self.kinds.get(operation[1]) == "own":
                told = {operation[1] in values for values, _ in self.found[node]}
                word = {(True,): "always", (False,): "never", (): "unreachable"}.get(tuple(told), "sometimes")
                found.append((node, operation[1], word))
        return found

    # Shortest runs (r1)

    def shortest(self, problem):
        """The first of the shortest runs that commit a problem: all runs are gone at once, one step after the other.

        Of runs that are in the same state, and of whose states ahead the same is to be told, but the first one is kept.
        """
        runs = [((), 0, self.start(), frozenset())]
        seen = set()
        while runs:
            behind = []
            for run, node, state, pending in runs:
                if self.commits(problem, node, state, pending):
                    return run + ((node, None),)
                key = (node, self.tell_state(state), pending)
                if key not in seen:
                    seen.add(key)
                    waits = self.pending_behind(problem, node, state, pending)
                    ways = sorted(self.ways(self.outcomes, node), key=lambda way: (oracle.run_rank(way[0]), way[1]))
                    for outcome, follower in ways:
                        behind.append((run + ((node, outcome),), follower, self.behind(state, node, outcome), waits))
            runs = behind
        return None

    def commits(self, problem, node, state, pending):
        if problem[2] == "no value":
            return node == problem[1] and problem[3] not in state[0]
        return bool(pending & self.used(node))

    def pending_behind(self, problem, node, state, pending):
        """The places that held the loan at the node of the problem, and whose later use would commit it."""
        found = pending - self.cleared(node)
        if problem[2] == "conflict" and node == problem[1]:
            found |= {place for place in self.order if ("node", problem[4]) in state[1][place]} - {self.put(node)}
        return frozenset(found)

    # Papers (p1, p4)

    def paper_rows(self):
        return tuple(self.paper_row(node) for node in range(len(self.nodes)))

    def paper_row(self, node):
        reached, _, lacks, holds, later = self.facts_at(node)
        if not reached:
            return None
        free = {
            (place, ("none",)) for _, pairs in self.found[node] for place in self.order
            if all(loan[0] != "param" for other, loan in pairs if other == place)
        }
        return (lacks, tuple(sorted({*holds, *free}, key=self.pair_rank)), later)


def searchers(program):
    """A searcher for each function, with the outcomes that all whole runs have."""
    endings = oracle.all_endings(program)
    outcomes = {name: oracle.in_order(told) for name, told in endings.items()}
    return [Searcher(program, number, outcomes) for number in range(len(program))]


def paper_of(program):
    """The paper that is made, by searches."""
    return tuple((told.outcomes[told.name], told.paper_rows()) for told in searchers(program))


class PaperReader(oracle.Oracle):
    """Looks at one function of a paper by the words of p2, condition by condition."""

    def __init__(self, program, function, paper):
        oracle.Oracle.__init__(self, program, function)
        self.told = {head[0]: paper[number][0] for number, head in enumerate(program)}
        self.rows = paper[function][1]

    def faults(self):
        """For each node the numbers of the conditions that fail there."""
        return [
            [number for number, fails in enumerate(self.conditions(), 1) if fails(node)] for node in range(len(self.nodes))
        ]

    def conditions(self):
        return (self.fails_1, self.fails_2, self.fails_3, self.fails_4, self.fails_5)

    def lacks_here(self, lacks, holds, node):
        """Whether what is so is not in the row of a node."""
        row = self.rows[node]
        return row is None or not (set(lacks) <= set(row[0]) and set(holds) <= set(row[1]))

    def fails_1(self, node):
        values, held = self.start()
        pairs = {(place, loan) for place in self.order for loan in held[place] or {("none",)}}
        return node == 0 and self.lacks_here(set(self.order) - values, pairs, 0)

    def fails_2(self, node):
        if self.rows[node] is None:
            return False
        return any(
            self.lacks_here(self.lacks_behind(node), self.holds_behind(node, outcome), follower)
            for outcome, follower in self.ways(self.told, node)
        )

    def lacks_behind(self, node):
        put = {self.put(node)}
        return (set(self.rows[node][0]) | self.cleared(node)) - put

    def holds_behind(self, node, outcome):
        operation = self.nodes[node][0]
        held = set(self.rows[node][1])
        gone = set()
        if operation[0] == "move":
            gone = self.loans_of(operation[2])
        if operation[0] in ("drop", "clear", "end"):
            gone = self.loans_of(operation[1])
        stays = {(place, loan) for place, loan in held if place not in self.cleared(node) and loan not in gone}
        target = self.put(node)
        stays |= {(place, ("none",)) for place in self.cleared(node) - {target}}
        if target is None:
            return stays
        if operation[0] == "new" or outcome == "none":
            return stays | {(target, ("none",))}
        origin = f"#{outcome}" if operation[0] == "call" else operation[2]
        stays |= {(target, loan) for place, loan in held if place == origin and loan not in gone}
        if operation[0] == "borrow":
            stays.add((target, ("node", node)))
        return stays

    def fails_3(self, node):
        if self.rows[node] is None or self.nodes[node][0] != ("exit",):
            return False
        ends = {loan for place, loan in self.rows[node][1] if place == "#r" and loan[0] in ("param", "none")}
        return not {"none" if loan == ("none",) else loan[1] for loan in ends} <= set(self.told[self.name])

    def later_of(self, node):
        rows = [self.rows[follower] for outcome, follower in self.ways(self.told, node)]
        return {place for row in rows if row is not None for place in row[2]}

    def fails_4(self, node):
        if self.rows[node] is None:
            return False
        return not self.used(node) | (self.later_of(node) - self.cleared(node)) <= set(self.rows[node][2])

    def fails_5(self, node):
        if self.rows[node] is None:
            return False
        lacks, holds, _ = self.rows[node]
        if self.used(node) & set(self.kinds) & set(lacks):
            return True
        access = self.accessed(node)
        if access is None:
            return False
        against = {
            ("node", maker) for maker, (operation, _) in enumerate(self.nodes)
            if operation[0] == "borrow" and operation[2] == access[0] and "write" in (access[1], {"mut": "write"}.get(operation[3]))
        }
        return any(
            loan in against and place != self.put(node) and place in self.later_of(node) for place, loan in holds
        )


def paper_fault(program, paper):
    """The pair with which a paper is refused (p3), or None."""
    for number, head in enumerate(program):
        if len(paper) <= number or len(paper[number][1]) != len(oracle.Oracle(program, number).nodes):
            return (number, None)
    if len(paper) > len(program):
        return (len(program), None)
    for number in range(len(program)):
        for node, failed in enumerate(PaperReader(program, number, paper).faults()):
            if failed:
                return (number, node)
    return None
