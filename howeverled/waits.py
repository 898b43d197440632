"""How long one waits for a refusal."""

from howeverled.askkinds import is_asks, weights_by
from howeverled.checks import need, need_payment
from howeverled.equations import solved
from howeverled.longruns import long_run, refusing
from howeverled.quotients import added_up, over, times
from howeverled.standinglists import all_standings
from howeverled.steps import rows_by


def waits_of(web, asks, payer, payee, coins):
    """For each standing the mean number of steps until the ask is drawn and refused, that step counted."""
    need_asked(web[0], asks, payer, payee, coins)
    return waits_by(all_standings(web), asks, payer, payee, coins)


def need_asked(size, asks, payer, payee, coins):
    """Asks, and one of them."""
    need(is_asks(size, asks), "asks")
    need_payment(size, payer, payee, coins)
    need((payer, payee, coins) in weights_by(asks), "coins")


def waits_by(standings, asks, payer, payee, coins):
    """As waits_of; nothing is checked."""
    weight = weights_by(asks)[payer, payee, coins]
    ends = refusing(standings, payer, payee, coins)
    equations = []
    # One step, and behind each step but the awaited one the wait from there.
    for place, row in enumerate(rows_by(standings, asks)):
        whole = sum(row)
        factors = [-going for going in row]
        factors[place] += whole + (weight if place in ends else 0)
        equations.append([*factors, whole])
    return solved(equations)


def mean_wait(web, asks, payer, payee, coins):
    """The mean of the waits from the standings at which the ask is refused, by their shares of the long run."""
    need_asked(web[0], asks, payer, payee, coins)
    shares = long_run(web, asks)
    standings = all_standings(web)
    waits = waits_by(standings, asks, payer, payee, coins)
    ends = refusing(standings, payer, payee, coins)
    total = added_up([times(shares[place], waits[place]) for place in ends])
    return over(total, added_up([shares[place] for place in ends]))
