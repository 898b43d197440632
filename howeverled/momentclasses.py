"""A web with a standing as an object."""

from howeverled.checks import need, need_payment, need_standing
from howeverled.errors import Refused
from howeverled.flows import paid_over
from howeverled.kinds import is_web
from howeverled.mosts import bar_of, most_of
from howeverled.reaches import reach_of
from howeverled.spans import span_of


class Moment:
    """A web with a standing; it never changes."""

    def __init__(self, web, purses):
        need(is_web(web), "web")
        need_standing(web, purses)
        self._web = web
        self._purses = purses

    def can(self, payer, payee, coins):
        """True if the payer can pay the payee the coins."""
        need_payment(self._web[0], payer, payee, coins)
        return most_of(self._web, self._purses, payer, payee) >= coins

    def most(self, here, there):
        """As most_of."""
        return most_of(self._web, self._purses, here, there)

    def reach(self, house):
        """As reach_of."""
        return reach_of(self._web, self._purses, house)

    def pay(self, payer, payee, coins):
        """A new Moment with the purses behind the payment."""
        if not self.can(payer, payee, coins):
            raise Refused(bar_of(self._web, self._purses, payer, payee))
        return Moment(self._web, paid_over(self._purses, payer, payee, coins))

    def span(self, line):
        """As span_of."""
        return span_of(self._web, self._purses, line)

    def told(self):
        """The pair of the web and the purses."""
        return (self._web, self._purses)

    def __eq__(self, other):
        return isinstance(other, Moment) and self._web == other._web and self._purses == other._purses
