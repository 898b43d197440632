"""Logs of payments, refusals and turns, judged row by row."""

from howeverled.checks import is_house, is_payment, need, need_split
from howeverled.flows import led, most_led
from howeverled.kinds import is_positive
from howeverled.leading import judged_leading
from howeverled.rings import can_lead, leads_back

LENGTHS = {"paid": 5, "refused": 4, "turn": 4}


def judged_log(web, split, log):
    """None if all rows are right, otherwise the place of the first one that is not, and the word for it."""
    need_split(web, split)
    need(isinstance(log, tuple), "log")
    near = split
    for place, row in enumerate(log):
        word, near = judged_row(web, near, row)
        if word is not None:
            return (place, word)
    return None


def judged_row(web, near, row):
    """A pair: None and near behind the row, or the word for what is wrong with it."""
    if not is_row(web[0], row):
        return ("shape", near)
    if row[0] == "turn":
        _, house, ring, coins = row
        if not leads_back(web, house, ring) or not can_lead(web, near, house, ring, coins):
            return ("unled", near)
        return (None, led(web[1], near, house, ring, coins))
    payer, payee, coins = row[1:4]
    if row[0] == "refused":
        most, _ = most_led(web[1], near, payer, payee)
        return ("wrong" if most >= coins else None, near)
    fault, after = judged_leading(web, near, payer, payee, coins, row[4])
    return ("unled" if fault is not None else None, after)


def is_row(size, row):
    """True for a tuple that may tell a payment, a refusal or a turn; its leading or ring may be anything."""
    if not isinstance(row, tuple) or len(row) == 0 or not isinstance(row[0], str):
        return False
    if len(row) != LENGTHS.get(row[0]):
        return False
    if row[0] == "turn":
        return is_house(size, row[1]) and is_positive(row[3])
    return is_payment(size, row[1], row[2], row[3])
