"""An exchange that is only asked."""

from howeverled.checks import is_rule, need, need_payment, need_split
from howeverled.claims import holds_at
from howeverled.crossings import chance_of_pair
from howeverled.flows import held_by
from howeverled.kinds import is_web
from howeverled.mosts import most_of
from howeverled.reaches import reach_of
from howeverled.spans import span_of


class LiveAsks:
    """A web with a split, and the rule by which payments are led."""

    def __init__(self, web, split, rule):
        need(is_web(web), "web")
        need_split(web, split)
        need(is_rule(rule), "rule")
        self._take(web, split, rule)

    def _take(self, web, split, rule):
        """The exchange stands like this from now on."""
        self._web = web
        self._split = split
        self._purses = tuple(held_by(web[0], web[1], split))
        self._rule = rule

    def web_now(self):
        """The web."""
        return self._web

    def split_now(self):
        """A split of the web with the purses."""
        return self._split

    def purses_now(self):
        """The purses."""
        return self._purses

    def rule_now(self):
        """The rule."""
        return self._rule

    def can(self, payer, payee, coins):
        """True if the payer can pay the payee the coins."""
        need_payment(self._web[0], payer, payee, coins)
        return most_of(self._web, self._purses, payer, payee) >= coins

    def most(self, here, there):
        """As most_of."""
        return most_of(self._web, self._purses, here, there)

    def reach(self, house):
        """As reach_of."""
        return reach_of(self._web, self._purses, house)

    def span(self, line):
        """As span_of."""
        return span_of(self._web, self._purses, line)

    def chance(self, payer, payee):
        """As chance_of_pair."""
        return chance_of_pair(self._web, payer, payee)

    def asked(self, claim):
        """As holds_at."""
        return holds_at(self._web, self._purses, claim)
