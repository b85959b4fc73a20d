"""Reads texts: tokens (t1), the language (t2), and what is refused (t3)."""

from loancheck.errors import BadRule, BadText
from loancheck.rules import rule_fault

LONGEST_TEXT = 1500
DEEPEST_BLOCK = 60
LONGEST_NAME = 8
WORDS = (
    "fn", "own", "ref", "mut", "let", "new", "read", "write", "drop",
    "if", "else", "loop", "break", "continue", "return",
)
KINDS = ("own", "ref", "mut")


def parse_text(text):
    """The program that a text tells, whether it keeps the rules or not."""
    if len(text) > LONGEST_TEXT:
        raise BadText(0, "text too long")
    reader = Reader(split_tokens(text))
    functions = []
    while reader.coming() != "":
        functions.append(reader.read_function())
    if reader.deepest > DEEPEST_BLOCK:
        raise BadText(0, "blocks too deep")
    return tuple(functions)


def parse_program(text):
    """The program that a text tells, if it keeps the rules."""
    program = parse_text(text)
    fault = rule_fault(program)
    if fault is not None:
        raise BadRule(fault[0], fault[1], fault[2])
    return program


def split_tokens(text):
    tokens = []
    at = 0
    while at < len(text):
        end = token_end(text, at)
        if text[at] != " " and text[at] != "\n":
            tokens.append(text[at:end])
        at = end
    return tokens


def token_end(text, at):
    if text[at:at + 2] == "->":
        return at + 2
    end = at
    while end < len(text) and is_letter(text[end]):
        end += 1
    return max(end, at + 1)


def is_letter(sign):
    return "a" <= sign <= "z"


def is_name(token):
    return is_letter(token[:1]) and len(token) <= LONGEST_NAME and token not in WORDS


class Reader:
    """Goes along the tokens of a text, and refuses the first one with which no program goes on."""

    def __init__(self, tokens):
        self.tokens = tokens
        self.at = 0
        self.deepest = 0

    def coming(self):
        """The token that comes next, or the empty text behind the last one."""
        if self.at < len(self.tokens):
            return self.tokens[self.at]
        return ""

    def refuse(self):
        if self.at < len(self.tokens):
            raise BadText(self.at + 1, "unexpected token")
        raise BadText(len(self.tokens) + 1, "unexpected end")

    def take(self):
        token = self.coming()
        self.at += 1
        return token

    def skip(self, token):
        """Whether this token comes next; if so, it is taken."""
        if self.coming() != token:
            return False
        self.at += 1
        return True

    def expect(self, token):
        if not self.skip(token):
            self.refuse()

    def read_name(self):
        if not is_name(self.coming()):
            self.refuse()
        return self.take()

    def read_kind(self):
        if self.coming() not in KINDS:
            self.refuse()
        return self.take()

    def read_function(self):
        self.expect("fn")
        name = self.read_name()
        parameters = self.read_parameters()
        result = None
        if self.skip("->"):
            result = self.read_kind()
        return (name, parameters, result, self.read_body())

    def read_parameters(self):
        self.expect("(")
        parameters = []
        if self.skip(")"):
            return ()
        parameters.append(self.read_parameter())
        while self.skip(","):
            parameters.append(self.read_parameter())
        self.expect(")")
        return tuple(parameters)

    def read_parameter(self):
        name = self.read_name()
        self.expect(":")
        return (name, self.read_kind())

    def read_body(self):
        """The block of a function. Open blocks are kept in a list: a text can nest deeper than calls should."""
        self.expect("{")
        blocks = [OpenBlock("body", ())]
        while True:
            self.deepest = max(self.deepest, len(blocks))
            block = blocks[-1]
            if self.skip("}"):
                blocks.pop()
                if not blocks:
                    return tuple(block.statements)
                self.close_block(block, blocks)
            elif self.coming() in ("if", "loop"):
                word = self.take()
                self.expect("{")
                blocks.append(OpenBlock(word, ()))
            else:
                block.statements.append(self.read_statement())

    def close_block(self, block, blocks):
        """Puts the statement that the block ends into the one around it, or opens its else block."""
        inside = tuple(block.statements)
        around = blocks[-1].statements
        if block.word == "loop":
            around.append(("loop", inside))
        elif block.word == "else":
            around.append(("if", block.first, inside))
        elif self.skip("else"):
            self.expect("{")
            blocks.append(OpenBlock("else", inside))
        else:
            around.append(("if", inside, None))

    def read_statement(self):
        """A statement that has no blocks."""
        word = self.coming()
        if word == "let":
            statement = self.read_let()
        elif word in ("read", "write", "drop"):
            statement = (self.take(), self.read_name())
        elif word in ("break", "continue"):
            statement = (self.take(),)
        elif word == "return":
            statement = self.read_return()
        else:
            statement = self.read_call_or_set()
        self.expect(";")
        return statement

    def read_let(self):
        self.expect("let")
        name = self.read_name()
        self.expect("=")
        return ("let", name, self.read_expression())

    def read_return(self):
        self.expect("return")
        if self.coming() == ";":
            return ("return", None)
        return ("return", self.read_name())

    def read_call_or_set(self):
        name = self.read_name()
        if self.coming() == "(":
            return ("call", name, self.read_arguments())
        self.expect("=")
        return ("set", name, self.read_expression())

    def read_expression(self):
        if self.skip("new"):
            return ("new",)
        argument = self.read_argument()
        if argument[0] == "name" and self.coming() == "(":
            return ("call", argument[1], self.read_arguments())
        return argument

    def read_argument(self):
        if self.coming() in ("ref", "mut"):
            return (self.take(), self.read_name())
        return ("name", self.read_name())

    def read_arguments(self):
        self.expect("(")
        if self.skip(")"):
            return ()
        arguments = [self.read_argument()]
        while self.skip(","):
            arguments.append(self.read_argument())
        self.expect(")")
        return tuple(arguments)


class OpenBlock:
    """A block that is not closed yet: what it belongs to, and, for an else, the block that stood first."""

    def __init__(self, word, first):
        self.word = word
        self.first = first
        self.statements = []
