"""A web with asks as an object."""

from howeverled.askchanges import asks_back
from howeverled.askkinds import is_asks
from howeverled.checks import need
from howeverled.fits import asks_fit
from howeverled.kinds import is_web
from howeverled.longruns import asked_refused, long_run
from howeverled.waits import mean_wait


class Run:
    """A web with asks that come by chance."""

    def __init__(self, web, asks):
        need(is_web(web), "web")
        need(is_asks(web[0], asks), "asks")
        self._web = web
        self._asks = asks

    def long_shares(self):
        """As long_run."""
        return long_run(self._web, self._asks)

    def refused(self, payer, payee, coins):
        """As asked_refused."""
        return asked_refused(self._web, self._asks, payer, payee, coins)

    def fits(self, bends):
        """As asks_fit."""
        return asks_fit(self._web[0], self._asks, bends)

    def wait(self, payer, payee, coins):
        """As mean_wait."""
        return mean_wait(self._web, self._asks, payer, payee, coins)

    def back(self):
        """A new Run, by asks_back."""
        return Run(self._web, asks_back(self._web[0], self._asks))

    def __eq__(self, other):
        return isinstance(other, Run) and self._web == other._web and self._asks == other._asks
