"""Steps from standing to standing."""

from howeverled.askkinds import is_asks
from howeverled.checks import need
from howeverled.flows import paid_over
from howeverled.standinglists import all_standings


def step_rows(web, asks):
    """A row for each standing: the weight of all asks that lead from it to each one."""
    need(is_asks(web[0], asks), "asks")
    return tuple([tuple(row) for row in rows_by(all_standings(web), asks)])


def places_by(standings):
    """The place of each standing."""
    return {purses: place for place, purses in enumerate(standings)}


def rows_by(standings, asks):
    """As step_rows, by all standings."""
    places = places_by(standings)
    rows = []
    for purses in standings:
        row = [0] * len(standings)
        for payer, payee, coins, weight in asks:
            row[places[stepped(places, purses, payer, payee, coins)]] += weight
        rows.append(row)
    return rows


def stepped(known, purses, payer, payee, coins):
    """The purses behind the ask, known standings telling whether it is paid."""
    after = paid_over(purses, payer, payee, coins)
    return after if after in known else purses
