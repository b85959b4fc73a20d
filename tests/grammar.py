"""The language of t2, taken from its rules as they stand in the document.

Which tokens can go on is worked out from the rules alone, with all ways to read a text at once, so that
the tests of the reader do not rest on how the reader works.
"""

import re

RULES = """
program    = { function }
function   = "fn" NAME "(" [ parameter { "," parameter } ] ")" [ "->" kind ] block
parameter  = NAME ":" kind
kind       = "own" | "ref" | "mut"
block      = "{" { statement } "}"
statement  = "let" NAME "=" expression ";" | NAME "=" expression ";" | call ";"
           | "read" NAME ";" | "write" NAME ";" | "drop" NAME ";"
           | "if" block [ "else" block ] | "loop" block
           | "break" ";" | "continue" ";" | "return" [ NAME ] ";"
expression = "new" | argument | call
argument   = NAME | "ref" NAME | "mut" NAME
call       = NAME "(" [ argument { "," argument } ] ")"
"""
WORDS = "fn own ref mut let new read write drop if else loop break continue return".split()
SIGNS = ["->", "{", "}", "(", ")", ",", ";", ":", "="]
# One token of each kind: words, signs, names (short, longest), and what fits nowhere.
EACH_TOKEN = WORDS + SIGNS + ["a", "abcdefgh", "abcdefghi", "-", ">", "A", "_", "7", "\t", "\u00e9"]


def read_rules():
    """For each name of a rule its form: ("or", forms), ("all", forms), ("many", form), ("may", form),
    ("token", text), ("rule", name)."""
    rules = {}
    for part in re.split(r"\n(?=[a-z])", RULES.strip()):
        name, form = part.split("=", 1)
        rules[name.strip()] = read_choice(re.findall(r'"[^"]*"|[A-Za-z]+|[{}\[\]|]', form))
    return rules


def read_choice(words):
    """Reads forms up to a closing bracket, which is taken from the list of words."""
    choices = [[]]
    while words:
        word = words.pop(0)
        if word in "}]":
            break
        if word == "|":
            choices.append([])
        elif word == "{":
            choices[-1].append(("many", read_choice(words)))
        elif word == "[":
            choices[-1].append(("may", read_choice(words)))
        elif word.startswith('"'):
            choices[-1].append(("token", word[1:-1]))
        elif word == "NAME":
            choices[-1].append(("token", "NAME"))
        else:
            choices[-1].append(("rule", word))
    return ("or", [("all", choice) for choice in choices])


FORMS = read_rules()


def is_name(token):
    return re.fullmatch("[a-z]{1,8}", token) is not None and token not in WORDS


def openings(stack):
    """The stacks, each with a token on top (or none at all), which a stack of forms can become."""
    found = []
    waiting = [stack]
    while waiting:
        stack = waiting.pop()
        if not stack or stack[0][0] == "token":
            found.append(stack)
            continue
        (kind, form), rest = stack[0], stack[1:]
        if kind == "rule":
            waiting.append((FORMS[form],) + rest)
        elif kind == "or":
            waiting.extend((choice,) + rest for choice in form)
        elif kind == "all":
            waiting.append(tuple(form) + rest)
        elif kind == "may":
            waiting.extend([rest, (form,) + rest])
        else:
            waiting.extend([rest, (form,) + stack])
    return found


def start():
    return openings((("rule", "program"),))


def follow(stacks, token):
    """What the stacks become behind a token; no stack at all, if no program goes on with it."""
    found = []
    for stack in stacks:
        if stack and (stack[0][1] == token or stack[0][1] == "NAME" and is_name(token)):
            found.extend(openings(stack[1:]))
    return found


def fault(tokens):
    """None, or (number of the token, reason), as t3 tells."""
    stacks = start()
    for number, token in enumerate(tokens, 1):
        stacks = follow(stacks, token)
        if not stacks:
            return (number, "unexpected token")
    if () in stacks:
        return None
    return (len(tokens) + 1, "unexpected end")
