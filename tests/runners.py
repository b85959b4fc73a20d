"""Writes down runs in short, and replays them, for the tests."""

from loancheck.errors import BadRun
from loancheck.reading import parse_program
from loancheck.runs import replay


def steps(*told):
    """A run, told by numbers of nodes, and by pairs (node, outcome) where there is an outcome."""
    return tuple(step if isinstance(step, tuple) else (step, None) for step in told)


def problems(text, told, outcomes=None, function=0):
    """The problems that a run commits, without the name of the function."""
    found = replay(parse_program(text), function, outcomes or {}, steps(*told))[1]
    return [problem[1:] for problem in found]


def numbers(text, told, outcomes=None, function=0):
    """How many values a run made, got, dropped and handed on."""
    return replay(parse_program(text), function, outcomes or {}, steps(*told))[2:]


def bad_step(text, told, outcomes=None, function=0):
    """The number of the first step of a run that is not possible, or None."""
    try:
        replay(parse_program(text), function, outcomes or {}, steps(*told))
    except BadRun as bad:
        return bad.step
    return None
