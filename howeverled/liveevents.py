"""Events of a live exchange."""

from howeverled.checks import is_rule
from howeverled.kinds import is_number, is_positive

# How many entries stand behind the word of an event.
ENTRIES = {"house": 0, "line": 4, "widen": 3, "narrow": 3, "close": 2, "pay": 3, "turn": 3, "rule": 1, "day": 0}


def is_event(thing):
    """True for an event, of whatever web."""
    if not isinstance(thing, tuple) or len(thing) == 0 or not isinstance(thing[0], str):
        return False
    word, *entries = thing
    if len(entries) != ENTRIES.get(word):
        return False
    if word == "rule":
        return is_rule(entries[0])
    if word == "turn":
        house, ring, coins = entries
        return is_number(house) and is_told_ring(ring) and is_positive(coins)
    return all([is_number(entry) for entry in entries]) and are_entries(word, entries)


def is_told_ring(thing):
    """True for a tuple of at least two numbers."""
    return isinstance(thing, tuple) and len(thing) >= 2 and all([is_number(line) for line in thing])


def are_entries(word, numbers):
    """True if these numbers, as many as are due, can stand behind the word of an event."""
    if word == "pay":
        return numbers[0] != numbers[1] and numbers[2] >= 1
    if word == "line":
        return numbers[0] != numbers[1] and sum(numbers[2:]) >= 1
    if word in ("widen", "narrow"):
        return sum(numbers[1:]) >= 1
    return True


def is_log(thing):
    """True for a tuple of events."""
    return isinstance(thing, tuple) and all([is_event(event) for event in thing])
