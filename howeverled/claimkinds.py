"""What can be claimed of a standing."""

from howeverled.checks import is_house, is_payment
from howeverled.kinds import is_lot, is_number, is_tuple_of

# How many claims each of these words has behind it.
CLAIMS_BEHIND = {"not": 1, "both": 2, "either": 2}
# A claim lies within no more others.
DEEPEST = 3


def is_claim(size, thing):
    """True for a claim."""
    return is_claim_within(size, thing, 0)


def is_claim_within(size, thing, depth):
    """True for a claim that may lie within so many others."""
    if not isinstance(thing, tuple) or len(thing) == 0 or not isinstance(thing[0], str):
        return False
    word = thing[0]
    if word in CLAIMS_BEHIND:
        if depth == DEEPEST or len(thing) != CLAIMS_BEHIND[word] + 1:
            return False
        return all([is_claim_within(size, claim, depth + 1) for claim in thing[1:]])
    return is_plain_claim(size, thing)


def is_plain_claim(size, thing):
    """True for a claim that holds no other one."""
    if thing[0] == "pays":
        return is_tuple_of(4, thing) and is_payment(size, thing[1], thing[2], thing[3])
    if thing[0] == "shut":
        return is_tuple_of(2, thing) and is_lot(size, thing[1])
    if thing[0] == "holds":
        return is_tuple_of(3, thing) and is_house(size, thing[1]) and is_number(thing[2])
    return False
