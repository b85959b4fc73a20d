"""Makes programs for the tests, always the same ones, and writes them as texts."""

NAMES = ("a", "b", "x", "y", "zz", "abcdefgh")
FUNCTIONS = ("f", "g", "main", "pickpick")
KINDS = ("own", "ref", "mut")


def text_of(program):
    return " ".join(function_text(function) for function in program)


def function_text(function):
    name, parameters, result, body = function
    inner = ", ".join(f"{parameter}: {kind}" for parameter, kind in parameters)
    arrow = "" if result is None else f" -> {result}"
    return f"fn {name}({inner}){arrow} {block_text(body)}"


def block_text(block):
    return "{ " + "".join(statement_text(statement) + " " for statement in block) + "}"


def statement_text(statement):
    word = statement[0]
    if word == "let":
        return f"let {statement[1]} = {expression_text(statement[2])};"
    if word == "set":
        return f"{statement[1]} = {expression_text(statement[2])};"
    if word == "call":
        return expression_text(statement) + ";"
    if word == "if":
        otherwise = "" if statement[2] is None else " else " + block_text(statement[2])
        return f"if {block_text(statement[1])}{otherwise}"
    if word == "loop":
        return f"loop {block_text(statement[1])}"
    if word == "return" and statement[1] is None:
        return "return;"
    return " ".join(statement) + ";"


def expression_text(expression):
    word = expression[0]
    if word == "new":
        return "new"
    if word == "name":
        return expression[1]
    if word == "call":
        return f"{expression[1]}({', '.join(expression_text(argument) for argument in expression[2])})"
    return f"{word} {expression[1]}"


def loose_program(random):
    """A program by t2, which need not keep any rule."""
    return tuple(
        (
            random.choice(FUNCTIONS),
            tuple((random.choice(NAMES), random.choice(KINDS)) for _ in range(random.randrange(4))),
            random.choice(KINDS + (None,)),
            loose_block(random, 4),
        )
        for _ in range(random.randrange(4))
    )


def loose_block(random, depth):
    return tuple(loose_statement(random, depth) for _ in range(random.randrange(4)))


def loose_statement(random, depth):
    words = ("let", "set", "call", "read", "write", "drop", "break", "continue", "return")
    word = random.choice(words + (("if", "loop") if depth else ()))
    name = random.choice(NAMES)
    if word in ("let", "set"):
        return (word, name, loose_expression(random))
    if word == "call":
        return loose_call(random)
    if word == "if":
        otherwise = loose_block(random, depth - 1) if random.randrange(2) else None
        return ("if", loose_block(random, depth - 1), otherwise)
    if word == "loop":
        return ("loop", loose_block(random, depth - 1))
    if word in ("break", "continue"):
        return (word,)
    if word == "return" and random.randrange(2):
        return ("return", None)
    return (word, name)


def loose_expression(random):
    choice = random.randrange(3)
    if choice == 0:
        return ("new",)
    if choice == 1:
        return loose_call(random)
    return loose_argument(random)


def loose_argument(random):
    return (random.choice(("name", "ref", "mut")), random.choice(NAMES))


def loose_call(random):
    return ("call", random.choice(FUNCTIONS), tuple(loose_argument(random) for _ in range(random.randrange(4))))


# The heads of the functions in which strict_program puts bodies.
HEADS = (
    ("main", (), None),
    ("give", (("a", "own"), ("b", "ref")), "own"),
    ("look", (("a", "ref"),), "ref"),
    ("pick", (("a", "mut"), ("b", "mut"), ("c", "own")), "mut"),
    ("quiet", (("a", "mut"),), None),
)

# Those in which small_program puts them: most hand references on, by several ways.
SMALL_HEADS = (
    ("one", (("a", "ref"), ("b", "ref")), "ref"),
    ("two", (("a", "mut"), ("b", "own")), "mut"),
    ("both", (("a", "mut"), ("b", "mut"), ("c", "ref")), "mut"),
    ("keep", (("a", "own"),), "own"),
    ("main", (), None),
)


class StrictMaker:
    """Makes the body of a function that keeps the rules, but perhaps that of the bound of nodes."""

    def __init__(self, random, head, heads, most, filler):
        self.random = random
        self.result = head[2]
        self.heads = heads
        self.results = {name: result for name, parameters, result in heads}
        self.most = most
        self.filler = filler
        self.scope = list(head[1])
        self.many = len(head[1])
        self.loops = 0

    def body(self):
        block = list(self.block(3, self.most))
        if self.result is not None and (not block or block[-1][0] != "return"):
            return tuple(block + self.last())
        return tuple(block)

    def last(self):
        """The end of a body that hands something back; what it hands back is let ahead of it, if need be."""
        found = [name for name, kind in self.scope if kind == self.result]
        return [("return", self.random.choice(found))]

    def block(self, depth, most):
        return tuple(self.statement(depth) for _ in range(self.random.randrange(most + 1)))

    def inner(self, depth):
        before = len(self.scope)
        block = self.block(depth, 3)
        del self.scope[before:]
        return block

    def statement(self, depth):
        word = self.random.choice(
            ("let", "let", "set", "call", "read", "write", "drop", "if", "if", "loop", "break", "continue", "return")
        )
        if word == "let" and self.many < 8:
            return self.let()
        if word == "set" and self.scope:
            name, kind = self.random.choice(self.scope)
            expression = self.expression(kind)
            if expression is not None:
                return ("set", name, expression)
        if word == "call":
            return self.call(list(self.results)) or self.filler
        if word in ("read", "write", "drop"):
            return self.use(word)
        if word == "if" and depth:
            return ("if", self.inner(depth - 1), self.inner(depth - 1) if self.random.randrange(2) else None)
        if word == "loop" and depth:
            self.loops += 1
            block = self.inner(depth - 1)
            self.loops -= 1
            return ("loop", block)
        if word in ("break", "continue") and self.loops:
            return (word,)
        if word == "return":
            return self.leave()
        return self.filler

    def let(self):
        expressions = [self.expression(kind) for kind in KINDS]
        found = [number for number in range(3) if expressions[number] is not None]
        number = self.random.choice(found)
        name = "pqrstuvw"[self.many]
        self.many += 1
        self.scope.append((name, KINDS[number]))
        return ("let", name, expressions[number])

    def use(self, word):
        fit = {"read": KINDS, "write": ("own", "mut"), "drop": ("own",)}[word]
        found = [name for name, kind in self.scope if kind in fit]
        return (word, self.random.choice(found)) if found else self.filler

    def leave(self):
        if self.result is None:
            return ("return", None)
        found = [name for name, kind in self.scope if kind == self.result]
        return ("return", self.random.choice(found)) if found else self.filler

    def expression(self, kind):
        """An expression of a kind, or None."""
        found = [self.argument(kind), self.call([name for name in self.results if self.results[name] == kind])]
        if kind == "own":
            found.append(("new",))
        found = [expression for expression in found if expression is not None]
        return self.random.choice(found) if found else None

    def argument(self, kind):
        found = [("name", name) for name, other in self.scope if other == kind]
        if kind != "own":
            found += [(kind, name) for name, other in self.scope if other != "ref"]
        return self.random.choice(found) if found else None

    def call(self, names):
        if not names:
            return None
        name = self.random.choice(names)
        parameters = [parameters for other, parameters, result in self.heads if other == name][0]
        arguments = tuple(self.argument(kind) for parameter, kind in parameters)
        return None if None in arguments else ("call", name, arguments)


def strict_program(random):
    """A program that keeps the rules, but perhaps that of the bound of nodes."""
    return tuple(head + (StrictMaker(random, head, HEADS, 10, ("call", "main", ())).body(),) for head in HEADS)


def small_program(random):
    """A program of small functions that keeps the rules, its functions in any order."""
    heads = list(SMALL_HEADS)
    random.shuffle(heads)
    return tuple(head + (StrictMaker(random, head, heads, 8, ("if", (), None)).body(),) for head in heads)


FLOW_PARAMETERS = (("a", "ref"), ("b", "ref"), ("c", "ref"))


def flow_program(random):
    """Three functions that hand references on to one another and back, by all kinds of ways."""
    return tuple((name, FLOW_PARAMETERS, "ref", flow_body(random)) for name in random.sample(("f", "g", "h"), 3))


def flow_body(random):
    names = ["a", "b", "c", "x"]
    body = [("let", "o", ("new",)), ("let", "x", random.choice((("ref", "o"), flow_name(random, "abc"))))]
    for _ in range(random.randrange(1, 6)):
        body.append(flow_statement(random, names))
    return tuple(body + [("return", random.choice(names))])


def flow_name(random, names):
    return ("name", random.choice(names))


def flow_statement(random, names):
    choice = random.randrange(8)
    if choice < 2:
        return ("set", random.choice(names), flow_name(random, names))
    if choice < 4:
        return ("if", (("return", random.choice(names)),), None)
    if choice == 4:
        return ("loop", (("if", (("break",),), None), flow_call(random, names)))
    if choice == 5:
        return ("if", (flow_call(random, names),), (("set", random.choice(names), ("ref", "o")),))
    return ("if", (flow_call(random, names),), None) if random.randrange(3) else flow_call(random, names)


def flow_call(random, names):
    arguments = tuple(flow_name(random, names) for _ in range(3))
    return ("set", random.choice(names), ("call", random.choice("fgh"), arguments))
