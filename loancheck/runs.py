"""Runs of functions: what they commit and do with values, and which there are (s2, s4 to s6)."""

from loancheck.effects import conflicting_makers, touched_by, used_by
from loancheck.errors import BadRun
from loancheck.flows import outcomes_at
from loancheck.kinds import result_kinds
from loancheck.parts import Parts
from loancheck.states import first_state, state_behind


def replay(program, function, outcomes, run):
    """(complete, problems, made, got, dropped, handed on) of a run of a function, told by its number."""
    parts = Parts(program, function)
    refuse_wrong_steps(parts, outcomes, run)
    states = states_ahead(parts, first_state(program, function), run)
    complete = len(run) > 0 and parts.operations[run[-1][0]] == ("exit",)
    made = len([node for node, outcome in run if parts.operations[node][0] == "new"])
    got, handed = passed_values(program, parts, run)
    return (complete, problems_of(parts, states, run), made, got, dropped_values(parts, states, run), handed)


def all_runs(program, function, outcomes, most):
    """The list of all complete runs of a function, told by its number, with at most so many steps, in order."""
    parts = Parts(program, function)
    needed = steps_needed(parts, outcomes)
    found = []
    run = []
    waiting = [(0, step) for step in steps_from((0,), parts, outcomes, needed, most)]
    while waiting:
        many, step = waiting.pop()
        del run[many:]
        run.append(step)
        if parts.operations[step[0]] == ("exit",):
            found.append(tuple(run))
        leads = parts.leads[step[0]]
        waiting.extend([(many + 1, other) for other in steps_from(leads, parts, outcomes, needed, most - many - 1)])
    return found


def refuse_wrong_steps(parts, outcomes, run):
    possible = (0,)
    for at, (node, outcome) in enumerate(run):
        if node not in possible:
            raise BadRun(at)
        told = (None,)
        if at < len(run) - 1:
            told = outcomes_at(parts, outcomes, node)
        if outcome not in told:
            raise BadRun(at)
        possible = parts.leads[node]


def states_ahead(parts, state, run):
    """The states ahead of the steps of a run, which begins with a state."""
    found = []
    for node, outcome in run:
        found.append(state)
        state = state_behind(parts, state, node, outcome)
    return found


def later_behind(parts, run):
    """For each step of a run the places that are used later in it, from the next step on (s4)."""
    found = []
    later = ()
    for node, _ in reversed(run):
        found.append(later)
        operation = parts.operations[node]
        touched = touched_by(operation)
        kept = [place for place in later if place not in touched]
        used = used_by(operation, parts.result)
        later = (*used, *[place for place in kept if place not in used])
    return found[::-1]


def problems_of(parts, states, run):
    """The problems that a run commits (s5): states tells the state ahead of each of its steps."""
    found = {}
    for (node, _), state, later in zip(run, states, later_behind(parts, run)):
        operation = parts.operations[node]
        for place in used_by(operation, parts.result):
            if place in parts.kinds and place not in state[0]:
                # No node has a number below 0, so this stands ahead of the conflicts.
                found[(node, -1)] = (parts.name, node, "no value", place, None)
        for maker in conflicting_makers(parts, operation, state[1], later):
            found[(node, maker)] = (parts.name, node, "conflict", parts.borrows[maker][0], maker)
    return [found[key] for key in sorted(found)]


def passed_values(program, parts, run):
    """How many values a run gets, and how many it hands on (s6)."""
    results = result_kinds(program)
    owners = {other[0]: owners_among(other[1]) for other in program}
    got = owners_among(parts.parameters)
    handed = 0
    for at, (node, _) in enumerate(run):
        operation = parts.operations[node]
        if operation[0] == "call" and at < len(run) - 1:
            handed += owners[operation[1]]
            if results[operation[1]] == "own":
                got += 1
        if operation[0] == "exit" and parts.result == "own":
            handed += 1
    return (got, handed)


def owners_among(parameters):
    return len([name for name, kind in parameters if kind == "own"])


def dropped_values(parts, states, run):
    """How many values a run drops (s6): states tells the state ahead of each of its steps."""
    dropped = 0
    for (node, _), state in zip(run, states):
        operation = parts.operations[node]
        if operation[0] in ("drop", "clear", "end") and operation[1] in state[0]:
            if operation[0] == "drop" or parts.kinds.get(operation[1]) == "own":
                dropped += 1
    return dropped


def steps_needed(parts, outcomes):
    """For each node from which a run can be completed: with how many steps at least, its own among them."""
    needed = {}
    steps = 1
    fresh = [node for node, operation in enumerate(parts.operations) if operation[0] == "exit"]
    while fresh:
        for node in fresh:
            needed[node] = steps
        steps += 1
        fresh = []
        for node, leads in enumerate(parts.leads):
            if node not in needed and outcomes_at(parts, outcomes, node):
                if any([follower in needed for follower in leads]):
                    fresh.append(node)
    return needed


def steps_from(nodes, parts, outcomes, needed, most):
    """The steps at some nodes behind which a run can be completed with at most so many, the last one first."""
    found = []
    for node in sorted(nodes):
        if node in needed and needed[node] <= most:
            found.extend([(node, outcome) for outcome in outcomes_at(parts, outcomes, node)])
    return found[::-1]
