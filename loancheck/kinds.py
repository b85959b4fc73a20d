"""The kinds of variables and expressions (u1), which rules and graphs both need."""


def result_kinds(program):
    """For each name of a function the kind of its result, or None."""
    return {function[0]: function[2] for function in program}


def expression_kind(expression, kinds, results):
    """The kind of an expression: kinds tells those of the variables, results those of the functions."""
    if expression[0] == "new":
        return "own"
    if expression[0] == "name":
        return kinds[expression[1]]
    if expression[0] == "call":
        return results[expression[1]]
    return expression[0]


def variable_kinds(program, function):
    """The kinds of the variables of a function by their names, parameters first, then as they are declared."""
    results = result_kinds(program)
    kinds = {}
    for name, kind in program[function][1]:
        kinds[name] = kind
    for statement in all_statements(program[function][3]):
        if statement[0] == "let":
            kinds[statement[1]] = expression_kind(statement[2], kinds, results)
    return kinds


def all_statements(body):
    """The statements of a body and of the blocks in it, in the order of the text."""
    found = []
    waiting = list(body[::-1])
    while waiting:
        statement = waiting.pop()
        found.append(statement)
        for block in inner_blocks(statement)[::-1]:
            waiting.extend(block[::-1])
    return found


def inner_blocks(statement):
    if statement[0] == "loop":
        return (statement[1],)
    if statement[0] != "if":
        return ()
    if statement[2] is None:
        return (statement[1],)
    return (statement[1], statement[2])
