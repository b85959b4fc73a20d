"""Workspaces that are made again from their journals (w3)."""

from loancheck.errors import BadEdit, BadJournal
from loancheck.reading import split_tokens
from loancheck.workspace import Workspace


def replay_journal(text):
    """The workspace of a journal, or of a beginning of one, as it was behind the last whole line."""
    space = Workspace()
    for number, line in enumerate(text.split("\n")[:-1]):
        try:
            replay_line(space, line)
        except BadEdit:
            raise BadJournal(number + 1)
    return space


def replay_line(space, line):
    word, _, rest = line.partition(" ")
    if word == "put" and " ".join(split_tokens(rest)) == rest:
        space.edit_put(rest)
    elif word == "remove":
        space.edit_remove(rest)
    elif line == "undo":
        space.edit_undo()
    else:
        raise BadEdit("no edit")
