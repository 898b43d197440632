"""Where one more line helps most."""

from howeverled.checks import need
from howeverled.forestweights import forest_weight
from howeverled.joinings import joined_two
from howeverled.kinds import is_number
from howeverled.quotients import less, quotient_of
from howeverled.webchanges import made_by, without_line
from howeverled.webs import pairs_of


def pair_sum(web):
    """The sum of the chances of each two houses."""
    size, _ = web
    whole = forest_weight(web)
    alone = tuple(range(size))
    chances = [whole - forest_weight(made_by(web, joined_two(alone, *pair))) for pair in pairs_of(size)]
    return quotient_of(sum(chances), whole)


def gain_table(web, room):
    """For each two houses the sum of the chances in the web with a further line of this room between them."""
    need(is_number(room), "room")
    size, _ = web
    alone = tuple(range(size))
    whole = forest_weight(web)
    weights = {}
    rows = []
    for here, there in pairs_of(size):
        joined = joined_two(alone, here, there)
        total = whole + room * weight_at(weights, web, joined)
        chances = []
        for pair in pairs_of(size):
            refused = weight_at(weights, web, joined_two(alone, *pair))
            # The new line falls away where its two houses are made one.
            if pair != (here, there):
                refused += room * weight_at(weights, web, joined_two(joined, *pair))
            chances.append(total - refused)
        rows.append((here, there, quotient_of(sum(chances), total)))
    return tuple(rows)


def weight_at(weights, web, joining):
    """The forest weight of the web made one by the joining; weights has those that were asked before."""
    if joining not in weights:
        weights[joining] = forest_weight(made_by(web, joining))
    return weights[joining]


def best_line(web, room):
    """The first pair of houses between which a line of this room brings the greatest sum."""
    need(web[0] > 1, "web")
    best = None
    most = (-1, 1)
    for here, there, chances in gain_table(web, room):
        if less(most, chances):
            best = (here, there)
            most = chances
    return best


def loss_table(web):
    """For each line the sum of the chances in the web without it."""
    return tuple([pair_sum(without_line(web, line)) for line in range(len(web[1]))])
