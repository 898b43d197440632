"""A plan for a web as an object."""

from howeverled.bestlines import best_line, pair_sum
from howeverled.checks import need
from howeverled.kinds import is_web
from howeverled.openforms import share_form
from howeverled.webchanges import with_line


class Plan:
    """A web that is to get more lines."""

    def __init__(self, web):
        need(is_web(web), "web")
        self._web = web

    def form(self, here, there, payer, payee):
        """As share_form."""
        return share_form(self._web, here, there, payer, payee)

    def best(self, room):
        """As best_line."""
        return best_line(self._web, room)

    def total_chance(self):
        """As pair_sum."""
        return pair_sum(self._web)

    def with_new(self, here, there, room):
        """A new Plan, by with_line."""
        return Plan(with_line(self._web, here, there, room))

    def __eq__(self, other):
        return isinstance(other, Plan) and self._web == other._web
