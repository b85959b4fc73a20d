"""What runs do, straight from the words of the document, for whole states and whole runs.

Nothing here is taken from the package but the graph of a function, and nothing is clever: it is there to compare with.
States are kept as a set of places and a dict from places to sets of loans.
"""

from loancheck.graphs import graph
from loancheck.rules import variables

OTHERS = ("#0", "#1", "#2", "#t", "#r")


class Oracle:
    def __init__(self, program, function):
        self.name, self.parameters, self.result, body = program[function]
        self.nodes = graph(program, function)
        self.kinds = dict(variables(program, function))
        self.order = list(self.kinds) + list(OTHERS)
        self.heads = {head[0]: head for head in program}

    # States (s1, c8, c9)

    def start(self):
        names = [name for name, kind in self.parameters]
        held = {place: set() for place in self.order}
        for number, (name, kind) in enumerate(self.parameters):
            if kind in ("ref", "mut"):
                held[name] = {("param", number)}
        return set(names), held

    def read_state(self, state):
        values, pairs = state
        return set(values), {place: {loan for other, loan in pairs if other == place} for place in self.order}

    def tell_state(self, state):
        """A state as c9 tells it."""
        values, held = state
        pairs = []
        for place in self.order:
            for word in ("param", "node"):
                pairs += [(place, (word, number)) for number in sorted(n for w, n in held[place] if w == word)]
        return tuple(place for place in self.order if place in values), tuple(pairs)

    def loans_of(self, source):
        return {("node", n) for n, (operation, _) in enumerate(self.nodes)
                if operation[0] == "borrow" and operation[2] == source}

    def behind(self, state, node, outcome):
        values, held = set(state[0]), {place: set(loans) for place, loans in state[1].items()}

        def give(place, loans):
            values.add(place)
            held[place] = set(loans)

        def take(place):
            values.discard(place)
            held[place] = set()

        def forget(source):
            for place in held:
                held[place] -= self.loans_of(source)

        match self.nodes[node][0]:
            case ("new", target):
                give(target, ())
            case ("move", target, source):
                give(target, held[source])
                take(source)
                forget(source)
            case ("copy", target, source):
                give(target, held[source])
            case ("borrow", target, source, _):
                give(target, held[source] | {("node", node)})
            case ("drop" | "clear" | "end", source):
                take(source)
                forget(source)
            case ("call", _, target, many):
                loans = held[f"#{outcome}"] if isinstance(outcome, int) else set()
                for number in range(many):
                    take(f"#{number}")
                if target is not None:
                    give(target, loans)
        return values, held

    # What nodes use, access, clear and fill (s3, s4)

    def used(self, node):
        match self.nodes[node][0]:
            case ("move" | "copy", _, source) | ("borrow", _, source, _):
                return {source}
            case ("read" | "write" | "drop", source):
                return {source}
            case ("call", _, _, many):
                return {f"#{number}" for number in range(many)}
            case ("exit",):
                return {"#r"} if self.result else set()
        return set()

    def accessed(self, node):
        match self.nodes[node][0]:
            case ("read", source) | ("borrow", _, source, "ref"):
                found = (source, "read")
            case ("write" | "drop", source) | ("move", _, source) | ("borrow", _, source, "mut"):
                found = (source, "write")
            case ("clear" | "end", source) if self.kinds.get(source) == "own":
                found = (source, "write")
            case _:
                return None
        return found if found[0] in self.kinds else None

    def put(self, node):
        match self.nodes[node][0]:
            case ("new", target) | ("move" | "copy", target, _) | ("borrow", target, _, _) | ("call", _, target, _):
                return target
        return None

    def cleared(self, node):
        found = {self.put(node)} - {None}
        match self.nodes[node][0]:
            case ("move", _, source) | ("drop" | "clear" | "end", source):
                found.add(source)
            case ("call", _, _, many):
                found |= {f"#{number}" for number in range(many)}
        return found

    # Runs (s2, s5, s6)

    def fault(self, outcomes, run):
        """The number of the first step that is not possible, or None."""
        for at in range(len(run)):
            node, outcome = run[at]
            if at == 0 and node != 0:
                return at
            if at > 0 and node not in self.nodes[run[at - 1][0]][1]:
                return at
            operation = self.nodes[node][0]
            if operation[0] == "call" and at + 1 < len(run):
                if outcome is None or outcome not in outcomes[operation[1]]:
                    return at
            elif outcome is not None:
                return at
        return None

    def states(self, run):
        """The states ahead of the steps, and the one behind the last."""
        found = [self.start()]
        for node, outcome in run:
            found.append(self.behind(found[-1], node, outcome))
        return found

    def is_later(self, run, place, at):
        """Whether a place is used later in a run, from the step number at on."""
        for use in range(at, len(run)):
            if place in self.used(run[use][0]):
                if all(place not in self.cleared(run[step][0]) for step in range(at, use)):
                    return True
        return False

    def problems(self, run):
        found = set()
        states = self.states(run)
        for at, (node, _) in enumerate(run):
            values, held = states[at]
            for place in self.used(node):
                if place in self.kinds and place not in values:
                    found.add((self.name, node, "no value", place, None))
            access = self.accessed(node)
            for maker, (operation, _) in enumerate(self.nodes):
                if access is None or operation[0] != "borrow" or operation[2] != access[0]:
                    continue
                if access[1] == "read" and operation[3] != "mut":
                    continue
                for place in self.order:
                    if ("node", maker) in held[place] and place != self.put(node) and self.is_later(run, place, at + 1):
                        found.add((self.name, node, "conflict", access[0], maker))
        return sorted(found, key=lambda row: (row[1], -1 if row[4] is None else row[4]))

    def numbers(self, run):
        made = dropped = handed = 0
        got = sum(kind == "own" for name, kind in self.parameters)
        for at, (state, (node, _)) in enumerate(zip(self.states(run), run)):
            match self.nodes[node][0]:
                case ("new", _):
                    made += 1
                case ("drop", source):
                    dropped += source in state[0]
                case ("clear" | "end", source):
                    dropped += self.kinds.get(source) == "own" and source in state[0]
                case ("call", name, _, many) if at < len(run) - 1:
                    handed += sum(kind == "own" for _, kind in self.heads[name][1])
                    got += self.heads[name][2] == "own"
                case ("exit",):
                    handed += self.result == "own"
        return made, got, dropped, handed

    def replay(self, run):
        complete = bool(run) and self.nodes[run[-1][0]][0] == ("exit",)
        return (complete, self.problems(run), *self.numbers(run))

    def ways(self, outcomes, node):
        operation = self.nodes[node][0]
        told = outcomes[operation[1]] if operation[0] == "call" else (None,)
        return [(outcome, follower) for outcome in told for follower in self.nodes[node][1]]

    def runs(self, outcomes, most):
        """All complete runs with at most so many steps, in order: each run is tried as far as it goes."""
        found = []

        def go_on(run, node):
            if len(run) == most:
                return
            if self.nodes[node][0] == ("exit",):
                found.append(run + ((node, None),))
            for outcome, follower in self.ways(outcomes, node):
                go_on(run + ((node, outcome),), follower)

        go_on((), 0)
        return sorted(found, key=lambda run: [(node, run_rank(outcome)) for node, outcome in run])

    # Outcomes (m1)

    def endings(self, outcomes):
        """For each way to end a complete run that runs with these outcomes, as long as they are, tells one of them."""
        found = {}
        begin = self.start()
        waiting = [(0, begin, ())]
        seen = {(0, self.tell_state(begin))}
        for node, state, run in waiting:
            if self.nodes[node][0] == ("exit",):
                for ending in self.ending(state):
                    found.setdefault(ending, run + ((node, None),))
            for outcome, follower in self.ways(outcomes, node):
                other = self.behind(state, node, outcome)
                key = (follower, self.tell_state(other))
                if key not in seen:
                    seen.add(key)
                    waiting.append((follower, other, run + ((node, outcome),)))
        return found

    def ending(self, state):
        numbers = [number for word, number in state[1]["#r"] if word == "param"]
        return numbers or ["none"]


def run_rank(outcome):
    """Numbers ahead of "none"."""
    return 99 if outcome == "none" else -1 if outcome is None else outcome


def all_endings(program):
    """For each function by name its outcomes, each with a complete run that has it."""
    oracles = [Oracle(program, number) for number in range(len(program))]
    found = {oracle.name: {} for oracle in oracles}
    while True:
        before = {name: in_order(endings) for name, endings in found.items()}
        for oracle in oracles:
            for ending, run in oracle.endings(before).items():
                found[oracle.name].setdefault(ending, run)
        if before == {name: in_order(endings) for name, endings in found.items()}:
            return found


def in_order(endings):
    return tuple(sorted(endings, key=run_rank))
