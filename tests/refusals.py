"""Asks how a text is refused."""

from loancheck.errors import BadText
from loancheck.reading import parse_text


def refusal(text):
    """The pair (token, reason) with which a text is refused, or None."""
    try:
        parse_text(text)
    except BadText as bad:
        return (bad.token, bad.reason)
    return None
