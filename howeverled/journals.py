"""What the houses came by, day by day."""

from howeverled.checks import need
from howeverled.live import LiveWeb


def days_of(size, rule, log):
    """For each day of the log that ended, what each house received less what it paid."""
    live = LiveWeb(size, rule)
    need(isinstance(log, tuple), "log")
    days = []
    come_by = [0] * size
    for event in log:
        answer = live.go(event)
        if answer:
            _, payer, payee, coins = event
            come_by[payer] -= coins
            come_by[payee] += coins
        elif event[0] == "house":
            come_by.append(0)
        elif event[0] == "day":
            days.append(tuple(come_by))
            come_by = [0] * len(come_by)
    return tuple(days)
