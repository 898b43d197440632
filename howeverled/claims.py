"""At which standings claims hold."""

from howeverled.checks import need, need_standing
from howeverled.claimkinds import is_claim
from howeverled.flows import most_led
from howeverled.forestweights import forest_weight
from howeverled.quotients import quotient_of
from howeverled.slacks import slack_of
from howeverled.standinglists import all_standings


def holds_at(web, purses, claim):
    """True if the claim holds at the standing."""
    near = need_standing(web, purses)
    need(is_claim(web[0], claim), "claim")
    return does_hold(web, purses, near, claim)


def does_hold(web, purses, near, claim):
    """As holds_at, by near of a split; nothing is checked."""
    word = claim[0]
    if word == "pays":
        most, _ = most_led(web[1], near, claim[1], claim[2])
        return most >= claim[3]
    if word == "shut":
        return slack_of(web, purses, claim[1]) == 0
    if word == "holds":
        return purses[claim[1]] >= claim[2]
    held = [does_hold(web, purses, near, part) for part in claim[1:]]
    if word == "not":
        return not held[0]
    return all(held) if word == "both" else any(held)


def claim_count(web, claim):
    """The number of standings at which the claim holds."""
    need(is_claim(web[0], claim), "claim")
    held = [does_hold(web, purses, need_standing(web, purses), claim) for purses in all_standings(web)]
    return held.count(True)


def claim_share(web, claim):
    """The share of all standings at which the claim holds."""
    return quotient_of(claim_count(web, claim), forest_weight(web))


def claims_alike(web, claim, other):
    """True if both claims hold at the same standings."""
    return claims_apart(web, claim, other) is None


def claims_apart(web, claim, other):
    """The first standing at which just one of the claims holds, or None."""
    need(is_claim(web[0], claim), "claim")
    need(is_claim(web[0], other), "other")
    for purses in all_standings(web):
        near = need_standing(web, purses)
        if does_hold(web, purses, near, claim) != does_hold(web, purses, near, other):
            return purses
    return None
