"""A web with a root as an object."""

from howeverled.checks import is_house, need
from howeverled.forestweights import forest_weight, tree_weight
from howeverled.kinds import is_web
from howeverled.marking import marked_of, standing_of
from howeverled.numbering import number_of, standing_at


class Forests:
    """A web with a root."""

    def __init__(self, web, root):
        need(is_web(web), "web")
        need(is_house(web[0], root), "root")
        self._web = web
        self._root = root

    def weight(self):
        """The forest weight."""
        return forest_weight(self._web)

    def trees(self):
        """The tree weight."""
        return tree_weight(self._web)

    def number(self, purses):
        """As number_of, by the root."""
        return number_of(self._web, purses, self._root)

    def standing(self, number):
        """As standing_at, by the root."""
        return standing_at(self._web, number, self._root)

    def marks(self, purses):
        """As marked_of, by the root."""
        return marked_of(self._web, purses, self._root)

    def purses_by(self, marks):
        """As standing_of, by the root."""
        return standing_of(self._web, marks, self._root)

    def told(self):
        """The pair of the web and the root."""
        return (self._web, self._root)

    def __eq__(self, other):
        return isinstance(other, Forests) and self._web == other._web and self._root == other._root
