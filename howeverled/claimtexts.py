"""Claims as strings, and read from them."""

from howeverled.checks import need
from howeverled.claimkinds import CLAIMS_BEHIND, DEEPEST, is_claim
from howeverled.errors import InvalidText
from howeverled.webtexts import field_at, number_from

PLAIN_WORDS = ("pays", "shut", "holds")


def claim_line(size, claim):
    """The claim as a string."""
    need(is_claim(size, claim), "claim")
    return " ".join(fields_of(claim))


def fields_of(claim):
    """The fields of the claim's line."""
    fields = [claim[0]]
    for part in claim[1:]:
        if not isinstance(part, tuple):
            fields.append(str(part))
        elif claim[0] == "shut":
            fields.extend([str(number) for number in (len(part), *part)])
        else:
            fields.extend(fields_of(part))
    return fields


def read_claim(size, text):
    """The claim that the text tells."""
    need(isinstance(text, str), "text")
    fields = text.split(" ")
    claim, place = claim_from(size, fields, 0, 0)
    if place < len(fields):
        raise InvalidText(0, place)
    return claim


def claim_from(size, fields, place, depth):
    """A pair: the claim whose line begins at the place, and the place behind it; it lies within so many others."""
    word = field_at(fields, place)
    if word in PLAIN_WORDS:
        return plain_from(size, fields, place)
    if word not in CLAIMS_BEHIND or depth == DEEPEST:
        raise InvalidText(0, place)
    claim = [word]
    after = place + 1
    for _ in range(CLAIMS_BEHIND[word]):
        part, after = claim_from(size, fields, after, depth + 1)
        claim.append(part)
    return (tuple(claim), after)


def plain_from(size, fields, place):
    """As claim_from, of a claim that holds no other one."""
    if fields[place] == "shut":
        lot, after = lot_from(size, fields, place + 1)
        return (("shut", lot), after)
    house = number_from(fields, place + 1, 0, size)
    if fields[place] == "holds":
        return (("holds", house, number_from(fields, place + 2, 0, None)), place + 3)
    there = number_from(fields, place + 2, 0, size)
    if there == house:
        raise InvalidText(0, place + 2)
    return (("pays", house, there, number_from(fields, place + 3, 1, None)), place + 4)


def lot_from(size, fields, place):
    """A pair: the lot told from the place on, by how many it has and then by its houses, and the place behind it."""
    many = number_from(fields, place, 0, size + 1)
    lot = []
    for at in range(place + 1, place + 1 + many):
        lot.append(number_from(fields, at, lot[-1] + 1 if lot else 0, size))
    return (tuple(lot), place + 1 + many)
