"""Events and logs as texts, and read from them."""

from howeverled.checks import is_rule, need
from howeverled.errors import InvalidRow, InvalidText
from howeverled.liveevents import ENTRIES, is_event, is_log
from howeverled.webtexts import is_figures


def event_line(event):
    """The event as a line."""
    need(is_event(event), "event")
    return told_line(event)


def told_line(event):
    """As event_line; nothing is checked."""
    entries = event[1:]
    if event[0] == "turn":
        _, house, ring, coins = event
        entries = (house, coins, *ring)
    return " ".join([event[0], *[str(entry) for entry in entries]])


def log_text(log):
    """The lines of the log's events, joined by newlines."""
    need(is_log(log), "log")
    return "\n".join([told_line(event) for event in log])


def read_event(text):
    """The event that the line tells."""
    need(isinstance(text, str), "text")
    return event_from(text, 0)


def read_log(text):
    """The log that the text tells."""
    need(isinstance(text, str), "text")
    if text == "":
        return ()
    return tuple([event_from(line, row) for row, line in enumerate(text.split("\n"))])


def event_from(text, row):
    """The event that the line with this number tells."""
    told = told_from(text.split(" "), row)
    if not is_event(told):
        raise InvalidRow(row)
    return told


def told_from(fields, row):
    """What the fields of the line tell if they read well, be it an event or not."""
    word = fields[0]
    if word not in ENTRIES:
        raise InvalidText(row, 0)
    # The ring of a turn is told by at least two lines, each a field.
    least = 4 if word == "turn" else ENTRIES[word]
    entries = []
    for place, field in enumerate(fields[1:], start=1):
        if place > least and word != "turn":
            raise InvalidText(row, place)
        entries.append(entry_from(word, field, row, place))
    if len(entries) < least:
        raise InvalidText(row, len(fields))
    if word == "turn":
        house, coins, *ring = entries
        return (word, house, tuple(ring), coins)
    return (word, *entries)


def entry_from(word, field, row, place):
    """The entry that the field tells."""
    if word == "rule" and is_rule(field):
        return field
    if word == "rule" or not is_figures(field):
        raise InvalidText(row, place)
    return int(field)
