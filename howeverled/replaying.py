"""Logs done once more, and cut in two."""

from howeverled.checks import need
from howeverled.kinds import is_number
from howeverled.live import LiveWeb
from howeverled.liveevents import is_log


def replayed(size, rule, log):
    """A live exchange that has done the log."""
    live = LiveWeb(size, rule)
    need(isinstance(log, tuple), "log")
    for event in log:
        live.go(event)
    return live


def cut_log(log, many):
    """The first many events of the log, and all others."""
    need(is_log(log), "log")
    need(is_number(many) and many <= len(log), "many")
    return (log[:many], log[many:])
