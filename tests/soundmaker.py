"""Makes programs without problems, always the same ones: statements are put in as long as they make none."""

import random

import livemaker

from loancheck.check import check
from loancheck.rules import rule_fault, variables

HEADS = (
    ("main", (), None),
    ("make", (), "own"),
    ("keep", (("a", "own"), ("b", "own")), "own"),
    ("both", (("a", "mut"), ("b", "mut")), "mut"),
    ("one", (("a", "ref"), ("b", "ref"), ("c", "own")), "ref"),
    ("use", (("a", "own"), ("b", "mut")), None),
)
BEGINNINGS = {"make": (("let", "p", ("new",)), ("return", "p")), None: ()}


def sound_program(chance, tries):
    """A program of five functions or fewer; main, make, or both are among them. In most no function calls itself."""
    heads = [HEADS[chance.randrange(2)]] + chance.sample(HEADS[2:], chance.randrange(0, 4))
    if chance.randrange(2):
        heads.append(HEADS[1] if heads[0] == HEADS[0] else HEADS[0])
    chance.shuffle(heads)
    heads.sort(key=lambda head: head[0] != "main")
    straight = chance.randrange(4) > 0
    program = tuple(head + (first_body(head),) for head in heads)
    for _ in range(tries):
        other = with_more(chance, program, heads, straight)
        if rule_fault(other) is None and check(other) == []:
            program = other
    return program


def first_body(head):
    if head[0] == "make":
        return BEGINNINGS["make"]
    return () if head[2] is None else (("return", "a"),)


def with_more(chance, program, heads, straight):
    """The program with some more statements in one of its functions, or with another variable handed back.

    If it is a straight one, functions call but those behind them.
    """
    number = chance.randrange(len(program))
    name, parameters, result, body = program[number]
    called = heads[number + 1:] if straight else heads
    maker = livemaker.LiveMaker(chance, heads[number], called, 3, ("if", (), None))
    kinds = dict(variables(program, number))
    maker.many = len(kinds)
    at = chance.randrange(len(body) + (result is None))
    maker.scope += [(statement[1], kinds[statement[1]]) for statement in body[:at] if statement[0] == "let"]
    more = tuple(some_statement(chance, maker) for _ in range(chance.randrange(1, 3)))
    body = body[:at] + more + body[at:]
    if result is not None and chance.randrange(3) == 0:
        body = body[:-1] + (("return", chance.choice([name for name, kind in maker.scope if kind == result] or ["a"])),)
    return program[:number] + ((name, parameters, result, body),) + program[number + 1:]


def some_statement(chance, maker):
    """A statement; often one by which an owner has a value in some runs alone."""
    owners = [name for name, kind in maker.scope if kind == "own"]
    if not owners or chance.randrange(3):
        return maker.statement(2)
    owner = chance.choice(owners)
    block = chance.choice(((("drop", owner),), (("set", owner, ("new",)),), (("drop", owner), ("set", owner, ("new",)))))
    return ("if", block, None) if chance.randrange(4) else block[0]


def sound_programs(seed, many, tries=40):
    chance = random.Random(seed)
    return [sound_program(chance, tries) for _ in range(many)]
