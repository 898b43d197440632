"""A desk at which a live exchange is told and asked line by line."""

from howeverled.checks import need
from howeverled.errors import InvalidEvent, InvalidText
from howeverled.eventtexts import told_from
from howeverled.live import LiveWeb
from howeverled.liveevents import ENTRIES, is_event
from howeverled.mosts import bar_of
from howeverled.webtexts import number_from

# What stands behind the word of a question.
QUESTIONS = {
    "purses": (), "reach": ("house",), "span": ("line",), "most": ("house", "house"), "chance": ("house", "house"),
    "bar": ("house", "house", "coins"),
}


def desk_line(live, text):
    """The answer to the line; an event is done."""
    need(isinstance(live, LiveWeb), "live")
    need(isinstance(text, str), "text")
    fields = text.split(" ")
    if fields[0] in ENTRIES:
        return done_by(live, told_from(fields, 0))
    if fields[0] not in QUESTIONS:
        raise InvalidText(0, 0)
    return answer_to(live, fields[0], entries_from(live, fields))


def done_by(live, told):
    """The event is done."""
    if not is_event(told):
        raise InvalidEvent(told, "shape")
    answer = live.go(told)
    if answer is None:
        return "done"
    if answer:
        return "paid"
    _, payer, payee, _ = told
    return joined_line(["refused", *bar_of(live.web_now(), live.purses_now(), payer, payee)])


def entries_from(live, fields):
    """The numbers of a question, each one that can stand there now."""
    size, lines = live.web_now()
    bounds = {"house": size, "line": len(lines), "coins": None}
    kinds = QUESTIONS[fields[0]]
    entries = []
    for place, kind in enumerate(kinds, start=1):
        number = number_from(fields, place, 1 if kind == "coins" else 0, bounds[kind])
        if kind == "house" and number in entries:
            raise InvalidText(0, place)
        entries.append(number)
    if len(fields) > len(kinds) + 1:
        raise InvalidText(0, len(kinds) + 1)
    return entries


def answer_to(live, word, entries):
    """The answer to a question."""
    if word == "purses":
        return joined_line(live.purses_now())
    if word == "reach":
        return joined_line(live.reach(*entries))
    if word == "span":
        return joined_line(live.span(*entries))
    if word == "most":
        return str(live.most(*entries))
    if word == "chance":
        top, bottom = live.chance(*entries)
        return f"{top}/{bottom}"
    here, there, coins = entries
    if live.can(here, there, coins):
        return "open"
    return joined_line(bar_of(live.web_now(), live.purses_now(), here, there))


def joined_line(parts):
    """The parts, parted by single blanks."""
    return " ".join([str(part) for part in parts])
