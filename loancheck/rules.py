"""The rules that programs keep (u1, u2)."""

from loancheck.errors import BadRule
from loancheck.graphs import graph
from loancheck.kinds import expression_kind, result_kinds, variable_kinds

MOST_FUNCTIONS = 5
MOST_PARAMETERS = 3
MOST_VARIABLES = 8
MOST_NODES = 60


def rule_fault(program):
    """The first rule that a program breaks: (function, statement, reason), or None."""
    try:
        look_at_names(program)
        for number in range(len(program)):
            look_at_function(program, number)
    except BadRule as fault:
        return (fault.function, fault.statement, fault.reason)
    return None


def variables(program, function):
    """The pairs (name, kind) of the variables of a function, told by its number, parameters first."""
    return tuple(variable_kinds(program, function).items())


def look_at_names(program):
    names = []
    for number, function in enumerate(program):
        if number >= MOST_FUNCTIONS:
            raise BadRule(number, None, "too many functions")
        if function[0] in names:
            raise BadRule(number, None, f"duplicate function {function[0]}")
        names.append(function[0])


def look_at_function(program, number):
    body = program[number][3]
    look = FunctionLook(program, number)
    look.at_parameters(program[number][1])
    look.at_block(body)
    look.at_end(body)
    if len(graph(program, number)) > MOST_NODES:
        look.refuse("too many nodes")


class FunctionLook:
    """Looks at a function, part by part, and refuses the first one that breaks a rule."""

    def __init__(self, program, number):
        self.number = number
        self.heads = {function[0]: function[1] for function in program}
        self.results = result_kinds(program)
        self.result = program[number][2]
        self.statement = None
        self.begun = 0
        self.kinds = {}
        self.scope = []
        self.loops = 0

    def refuse(self, reason):
        raise BadRule(self.number, self.statement, reason)

    def declare(self, name, kind):
        self.kinds[name] = kind
        self.scope.append(name)

    def at_parameters(self, parameters):
        for number, (name, kind) in enumerate(parameters):
            if number >= MOST_PARAMETERS:
                self.refuse("too many parameters")
            if name in self.kinds:
                self.refuse(f"duplicate variable {name}")
            self.declare(name, kind)

    def at_block(self, block):
        before = len(self.scope)
        for statement in block:
            self.at_statement(statement)
        del self.scope[before:]

    def at_end(self, body):
        self.statement = self.begun
        if self.result is not None and (not body or body[-1][0] != "return"):
            self.refuse("missing result")

    def at_statement(self, statement):
        self.statement = self.begun
        self.begun += 1
        word = statement[0]
        if word == "let":
            self.at_let(statement[1], statement[2])
        elif word == "set":
            self.at_set(statement[1], statement[2])
        elif word == "call":
            self.at_call(statement[1], statement[2])
        elif word == "if":
            self.at_block(statement[1])
            if statement[2] is not None:
                self.at_block(statement[2])
        elif word == "loop":
            self.loops += 1
            self.at_block(statement[1])
            self.loops -= 1
        elif word == "return":
            self.at_return(statement[1])
        elif word in ("break", "continue"):
            if self.loops == 0:
                self.refuse("not in a loop")
        else:
            self.at_use(word, statement[1])

    def at_let(self, name, expression):
        if name in self.kinds:
            self.refuse(f"duplicate variable {name}")
        if len(self.kinds) >= MOST_VARIABLES:
            self.refuse("too many variables")
        self.declare(name, self.kind_of(expression))

    def at_set(self, name, expression):
        self.need(name)
        if self.kind_of(expression) != self.kinds[name]:
            self.refuse(f"wrong kind of {name}")

    def at_use(self, word, name):
        """Looks at a read, a write or a drop."""
        self.need(name)
        kind = self.kinds[name]
        if word == "write" and kind == "ref":
            self.refuse(f"write to shared {name}")
        if word == "drop" and kind != "own":
            self.refuse(f"drop of reference {name}")

    def at_return(self, name):
        if name is None:
            if self.result is not None:
                self.refuse("missing result")
            return
        self.need(name)
        if self.result is None:
            self.refuse("unexpected result")
        if self.kinds[name] != self.result:
            self.refuse("wrong kind of result")

    def need(self, name):
        if name not in self.scope:
            self.refuse(f"unknown variable {name}")

    def kind_of(self, expression):
        """The kind of an expression, which must have one."""
        if expression[0] == "call":
            self.at_call(expression[1], expression[2])
            if self.results[expression[1]] is None:
                self.refuse(f"no result of {expression[1]}")
        elif expression[0] != "new":
            self.at_argument(expression)
        return expression_kind(expression, self.kinds, self.results)

    def at_argument(self, argument):
        word, name = argument
        self.need(name)
        if word != "name" and self.kinds[name] == "ref":
            self.refuse(f"reference to shared {name}")

    def at_call(self, function, arguments):
        if function not in self.heads:
            self.refuse(f"unknown function {function}")
        parameters = self.heads[function]
        for number, argument in enumerate(arguments):
            self.at_argument(argument)
            kind = expression_kind(argument, self.kinds, self.results)
            if number < len(parameters) and kind != parameters[number][1]:
                self.refuse(f"wrong kind of argument {number}")
        if len(arguments) != len(parameters):
            self.refuse("wrong number of arguments")
