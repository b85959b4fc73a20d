"""The graphs of functions (f1, f2) and their places (c6)."""

from loancheck.kinds import result_kinds, variable_kinds

OTHER_PLACES = ("#0", "#1", "#2", "#t", "#r")


def graph(program, function):
    """The graph of a function, told by its number."""
    parameters = program[function][1]
    sketch = Sketch(variable_kinds(program, function), result_kinds(program))
    sketch.add_body([name for name, kind in parameters], program[function][3])
    return sketch.nodes()


def places(program, function):
    """All places of a function, told by its number, in their order."""
    return tuple(variable_kinds(program, function)) + OTHER_PLACES


class Sketch:
    """A graph that is being made: its nodes in order, and between them jumps, which are no nodes.

    A row is a pair (operation, marks). A jump has the operation None. Marks stand for the rows to which
    it leads; a row whose marks are None leads to the one behind it.
    """

    def __init__(self, kinds, results):
        self.kinds = kinds
        self.results = results
        self.rows = []
        self.marks = []
        self.scope = []
        self.loops = []

    def add_node(self, operation):
        self.rows.append((operation, None))

    def add_jump(self, mark):
        self.rows.append((None, (mark,)))

    def new_mark(self):
        self.marks.append(None)
        return len(self.marks) - 1

    def put_mark(self, mark):
        """Lets a mark stand for the row that is added next."""
        self.marks[mark] = len(self.rows)

    def add_ends(self, many):
        """Ends the scopes of the variables in reach, but of the first so many."""
        for name in self.scope[many:][::-1]:
            self.add_node(("end", name))

    def add_exit(self):
        self.add_ends(0)
        self.rows.append((("exit",), ()))

    def add_body(self, parameters, body):
        self.scope.extend(parameters)
        for statement in body:
            self.add_statement(statement)
        if not body or body[-1][0] != "return":
            self.add_exit()

    def add_block(self, block):
        before = len(self.scope)
        for statement in block:
            self.add_statement(statement)
        self.add_ends(before)
        del self.scope[before:]

    def add_statement(self, statement):
        word = statement[0]
        if word == "let":
            self.add_value(statement[1], statement[2])
            self.scope.append(statement[1])
        elif word == "set":
            self.add_value("#t", statement[2])
            self.add_node(("clear", statement[1]))
            self.add_node(("move", statement[1], "#t"))
        elif word == "call":
            self.add_call_statement(statement[1], statement[2])
        elif word == "if":
            self.add_if(statement[1], statement[2])
        elif word == "loop":
            self.add_loop(statement[1])
        elif word == "return":
            self.add_return(statement[1])
        elif word in ("break", "continue"):
            self.add_leap(word)
        else:
            self.add_node((word, statement[1]))

    def add_value(self, target, expression):
        """Adds the nodes of an expression with a target."""
        word = expression[0]
        if word == "new":
            self.add_node(("new", target))
        elif word == "call":
            self.add_call(target, expression[1], expression[2])
        elif word == "name":
            self.add_name(target, expression[1])
        else:
            self.add_node(("borrow", target, expression[1], word))

    def add_name(self, target, name):
        if self.kinds[name] == "ref":
            self.add_node(("copy", target, name))
        else:
            self.add_node(("move", target, name))

    def add_call(self, target, function, arguments):
        for number, argument in enumerate(arguments):
            self.add_value("#" + str(number), argument)
        self.add_node(("call", function, target, len(arguments)))

    def add_call_statement(self, function, arguments):
        result = self.results[function]
        if result is None:
            self.add_call(None, function, arguments)
            return
        self.add_call("#t", function, arguments)
        if result == "own":
            self.add_node(("drop", "#t"))
        else:
            self.add_node(("clear", "#t"))

    def add_if(self, first, second):
        then_mark = self.new_mark()
        else_mark = self.new_mark()
        end_mark = self.new_mark()
        self.rows.append((("choose",), (then_mark, else_mark)))
        self.put_mark(then_mark)
        self.add_block(first)
        self.add_jump(end_mark)
        self.put_mark(else_mark)
        if second is not None:
            self.add_block(second)
        self.put_mark(end_mark)

    def add_loop(self, block):
        start_mark = self.new_mark()
        end_mark = self.new_mark()
        self.put_mark(start_mark)
        self.add_node(("loop",))
        self.loops.append((start_mark, end_mark, len(self.scope)))
        self.add_block(block)
        self.loops.pop()
        self.add_jump(start_mark)
        self.put_mark(end_mark)

    def add_leap(self, word):
        """Adds a break or a continue of the innermost loop."""
        start_mark, end_mark, before = self.loops[-1]
        self.add_ends(before)
        if word == "break":
            self.add_jump(end_mark)
        else:
            self.add_jump(start_mark)

    def add_return(self, name):
        if name is not None:
            self.add_name("#r", name)
        self.add_exit()

    def nodes(self):
        """The graph: the rows that are nodes, each with the numbers of those to which it leads."""
        numbers = {}
        for row, (operation, _) in enumerate(self.rows):
            if operation is not None:
                numbers[row] = len(numbers)
        found = []
        for row in numbers:
            leads = tuple([numbers[place] for place in self.followers(row)])
            found.append((self.rows[row][0], leads))
        return tuple(found)

    def followers(self, row):
        """The rows of the nodes to which a row leads, each once."""
        marks = self.rows[row][1]
        if marks is None:
            return [self.landing(row + 1)]
        found = []
        for mark in marks:
            place = self.landing(self.marks[mark])
            if place not in found:
                found.append(place)
        return found

    def landing(self, row):
        """The first row that is a node, from a row on. (No jumps lead around: each loop has a node.)"""
        while self.rows[row][0] is None:
            row = self.marks[self.rows[row][1][0]]
        return row
