"""The shares of a web as an object."""

from howeverled.checks import need
from howeverled.claims import claim_share
from howeverled.forestweights import forest_weight
from howeverled.kinds import is_web
from howeverled.pairshares import refused_share
from howeverled.quotients import quotient_of
from howeverled.reachcounts import joined_count, reach_count


class Shares:
    """A web, asked at which shares of its standings something holds."""

    def __init__(self, web):
        need(is_web(web), "web")
        self._web = web

    def refused(self, payer, payee, coins):
        """As refused_share."""
        return refused_share(self._web, payer, payee, coins)

    def joined(self, lot):
        """As joined_count, over the forest weight."""
        return quotient_of(joined_count(self._web, lot), self.total())

    def reach(self, house, lot):
        """As reach_count, over the forest weight."""
        return quotient_of(reach_count(self._web, house, lot), self.total())

    def claim(self, claim):
        """As claim_share."""
        return claim_share(self._web, claim)

    def total(self):
        """The forest weight."""
        return forest_weight(self._web)

    def __eq__(self, other):
        return isinstance(other, Shares) and self._web == other._web
