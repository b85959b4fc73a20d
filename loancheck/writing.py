"""The written form of programs (t5)."""


def program_text(program):
    """The written form of a program."""
    return "\n".join([function_text(function) for function in program])


def function_text(function):
    """The written form of one function."""
    name, parameters, result, body = function
    inner = ", ".join([f"{variable}: {kind}" for variable, kind in parameters])
    head = f"fn {name}({inner})"
    if result is not None:
        head = f"{head} -> {result}"
    lines = [head + " {", *block_lines(body, "  "), "}"]
    return "".join([line + "\n" for line in lines])


def block_lines(block, margin):
    """The lines of the statements of a block, each with the margin ahead of it."""
    lines = []
    for statement in block:
        lines.extend(statement_lines(statement, margin))
    return lines


def statement_lines(statement, margin):
    word = statement[0]
    if word == "if":
        return if_lines(statement[1], statement[2], margin)
    if word == "loop":
        return [margin + "loop {", *block_lines(statement[1], margin + "  "), margin + "}"]
    return [margin + simple_text(statement) + ";"]


def if_lines(first, second, margin):
    lines = [margin + "if {", *block_lines(first, margin + "  ")]
    if second is not None:
        lines.append(margin + "} else {")
        lines.extend(block_lines(second, margin + "  "))
    return [*lines, margin + "}"]


def simple_text(statement):
    """A statement without blocks, without its semicolon."""
    word = statement[0]
    if word == "let":
        return f"let {statement[1]} = {expression_text(statement[2])}"
    if word == "set":
        return f"{statement[1]} = {expression_text(statement[2])}"
    if word == "call":
        return expression_text(statement)
    if word == "return" and statement[1] is None:
        return word
    return " ".join(statement)


def expression_text(expression):
    """An expression, an argument, or a call as a statement, which has the shape of one."""
    word = expression[0]
    if word == "name":
        return expression[1]
    if word == "call":
        inner = ", ".join([expression_text(argument) for argument in expression[2]])
        return f"{expression[1]}({inner})"
    return " ".join(expression)
