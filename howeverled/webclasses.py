"""A web as an object."""

from howeverled.checks import need
from howeverled.errors import NotUsable
from howeverled.kinds import is_positive
from howeverled.webchanges import beside, kept_to, made_one, with_line
from howeverled.webs import bond_of, hold_of, web_of


class Web:
    """A web of so many houses, with these lines."""

    def __init__(self, size, *lines):
        need(is_positive(size), "size")
        self._pair = web_of(size, *lines)

    def bond(self, here, there):
        """As bond_of."""
        return bond_of(self._pair, here, there)

    def hold(self, house):
        """As hold_of."""
        return hold_of(self._pair, house)

    def kept(self, lot):
        """A new Web, by kept_to."""
        size, lines = kept_to(self._pair, lot)
        return Web(size, *lines)

    def merged(self, here, there):
        """A new Web, by made_one."""
        size, lines = made_one(self._pair, here, there)
        return Web(size, *lines)

    def with_new(self, here, there, room):
        """A new Web, by with_line."""
        size, lines = with_line(self._pair, here, there, room)
        return Web(size, *lines)

    def told(self):
        """The pair."""
        return self._pair

    def __eq__(self, other):
        return isinstance(other, Web) and self._pair == other._pair

    def __len__(self):
        return len(self._pair[1])

    def __add__(self, other):
        if not isinstance(other, Web):
            raise NotUsable("other", -1)
        size, lines = beside(self._pair, other._pair)
        return Web(size, *lines)
