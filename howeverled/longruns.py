"""What steps come to, and the long run."""

from howeverled.askkinds import is_asks
from howeverled.checks import need, need_payment, need_standing
from howeverled.equations import solved
from howeverled.errors import Parted
from howeverled.flows import paid_over
from howeverled.quotients import added_up
from howeverled.standinglists import all_standings
from howeverled.steps import places_by, rows_by, stepped


def comes_to(web, asks, purses):
    """The standings to which steps can lead from the purses, themselves too, ascending."""
    need(is_asks(web[0], asks), "asks")
    need_standing(web, purses)
    return tuple(sorted(come_to(places_by(all_standings(web)), asks, purses)))


def come_to(known, asks, purses):
    """As comes_to, in any sequence, by the known standings."""
    met = {purses: True}
    queue = [purses]
    while queue:
        now = queue.pop()
        for payer, payee, coins, _ in asks:
            after = stepped(known, now, payer, payee, coins)
            if after not in met:
                met[after] = True
                queue.append(after)
    return list(met)


def need_joined(standings, asks):
    """Each standing can be come to from each one."""
    known = places_by(standings)
    for here in standings:
        met = {purses: True for purses in come_to(known, asks, here)}
        for there in standings:
            if there not in met:
                raise Parted(here, there)


def long_run(web, asks):
    """The long run, if it is plain that there is just one."""
    need(is_asks(web[0], asks), "asks")
    standings = all_standings(web)
    need_joined(standings, asks)
    return shares_by(standings, asks)


def shares_by(standings, asks):
    """The only long run."""
    many = len(standings)
    rows = rows_by(standings, asks)
    leaving = [sum(row) for row in rows]
    equations = [[1] * (many + 1)]
    # What comes in is what goes out: where that holds for all but one, it holds for that one too.
    for there in range(1, many):
        coming = [row[there] for row in rows]
        coming[there] -= leaving[there]
        equations.append([*coming, 0])
    return solved(equations)


def asked_refused(web, asks, payer, payee, coins):
    """The shares, added, of the standings at which the coins can't be paid."""
    need(is_asks(web[0], asks), "asks")
    need_payment(web[0], payer, payee, coins)
    shares = long_run(web, asks)
    return added_up([shares[place] for place in refusing(all_standings(web), payer, payee, coins)])


def refusing(standings, payer, payee, coins):
    """The places of the standings at which the coins can't be paid."""
    known = places_by(standings)
    return [place for place, purses in enumerate(standings) if paid_over(purses, payer, payee, coins) not in known]
