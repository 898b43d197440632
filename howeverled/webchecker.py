"""The checker of webs."""

from howeverled.errors import InvalidPaper
from howeverled.kinds import web_fault


def lets_web(thing):
    """How many lines the web has."""
    fault = web_fault(thing)
    if fault is not None:
        word, at = fault
        raise InvalidPaper(word, at)
    return len(thing[1])
