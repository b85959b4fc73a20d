"""Changes papers, and asks how they are refused, for the tests."""

from loancheck.errors import BadPaper
from loancheck.papers import check_paper

PARTS = ("lacks", "holds", "later")


def fault(program, paper):
    """The pair with which a paper is refused, or None."""
    try:
        check_paper(program, paper)
    except BadPaper as bad:
        return bad.node
    return None


def with_row(paper, function, node, row):
    """The paper with another row of a node."""
    outcomes, rows = paper[function]
    rows = rows[:node] + (row,) + rows[node + 1:]
    return paper[:function] + ((outcomes, rows),) + paper[function + 1:]


def with_outcomes(paper, function, *outcomes):
    return paper[:function] + ((outcomes, paper[function][1]),) + paper[function + 1:]


def with_rows(paper, function, rows):
    return paper[:function] + ((paper[function][0], tuple(rows)),) + paper[function + 1:]


def without(paper, function, node, part, *items):
    """The paper without some items of a row, which are there."""
    row = list(paper[function][1][node])
    at = PARTS.index(part)
    for item in items:
        assert item in row[at], (item, row)
    row[at] = tuple(item for item in row[at] if item not in items)
    return with_row(paper, function, node, tuple(row))


def adding(paper, function, node, part, *items):
    """The paper with some more items of a row."""
    row = list(paper[function][1][node])
    at = PARTS.index(part)
    row[at] = row[at] + tuple(item for item in items if item not in row[at])
    return with_row(paper, function, node, tuple(row))


def adding_everywhere(paper, function, part, *items):
    """The paper with some more items of each row that there is."""
    for node, row in enumerate(paper[function][1]):
        if row is not None:
            paper = adding(paper, function, node, part, *items)
    return paper
