"""Runs a function straight from its statements, and along its graph, with the same choices.

The first way knows nothing of nodes or numbers: blocks end the scopes of their variables when they are left,
in whatever way. Both must do the same operations.
"""


class Leave(Exception):
    """A break, a continue or a return on its way out of the blocks."""

    def __init__(self, word):
        Exception.__init__(self, word)
        self.word = word


class Enough(Exception):
    """So many operations as were asked for have been done."""


class Walker:
    def __init__(self, program, kinds, choices, most):
        self.results = {name: result for name, parameters, result, body in program}
        self.kinds = kinds
        self.choices = list(choices)
        self.most = most
        self.done = []

    def do(self, *operation):
        if len(self.done) == self.most:
            raise Enough()
        self.done.append(operation)

    def function(self, parameters, body):
        try:
            try:
                self.block(body, [name for name, kind in parameters])
            except Leave:
                pass
            self.do("exit")
        except Enough:
            pass
        return self.done

    def block(self, block, declared):
        try:
            for statement in block:
                self.statement(statement)
                if statement[0] == "let":
                    declared.append(statement[1])
        except Leave:
            self.end(declared)
            raise
        self.end(declared)

    def end(self, declared):
        for name in reversed(declared):
            self.do("end", name)

    def statement(self, statement):
        getattr(self, "do_" + statement[0])(*statement[1:])

    def do_let(self, name, expression):
        self.value(name, expression)

    def do_set(self, name, expression):
        self.value("#t", expression)
        self.do("clear", name)
        self.do("move", name, "#t")

    def do_call(self, function, arguments):
        result = self.results[function]
        self.value(None if result is None else "#t", ("call", function, arguments))
        if result is not None:
            self.do("drop" if result == "own" else "clear", "#t")

    def do_read(self, name):
        self.do("read", name)

    def do_write(self, name):
        self.do("write", name)

    def do_drop(self, name):
        self.do("drop", name)

    def do_if(self, first, second):
        self.do("choose")
        block = second if self.choices.pop(0) else first
        self.block(block or (), [])

    def do_loop(self, block):
        while True:
            self.do("loop")
            try:
                self.block(block, [])
            except Leave as leave:
                if leave.word == "break":
                    return
                if leave.word == "return":
                    raise

    def do_break(self):
        raise Leave("break")

    def do_continue(self):
        raise Leave("continue")

    def do_return(self, name):
        if name is not None:
            self.value("#r", ("name", name))
        raise Leave("return")

    def value(self, target, expression):
        word = expression[0]
        if word == "new":
            self.do("new", target)
        elif word == "name":
            self.do("copy" if self.kinds[expression[1]] == "ref" else "move", target, expression[1])
        elif word == "call":
            for number, argument in enumerate(expression[2]):
                self.value("#" + str(number), argument)
            self.do("call", expression[1], target, len(expression[2]))
        else:
            self.do("borrow", target, expression[1], word)


def walk_text(program, function, kinds, choices, most):
    name, parameters, result, body = program[function]
    return Walker(program, kinds, choices, most).function(parameters, body)


def walk_graph(graph, choices, most):
    choices = list(choices)
    done = []
    node = 0
    while len(done) < most:
        operation, followers = graph[node]
        done.append(operation)
        if operation == ("exit",):
            break
        choice = choices.pop(0) if operation == ("choose",) else 0
        node = followers[min(choice, len(followers) - 1)]
    return done
