"""A piece as an object."""

from howeverled.checks import need
from howeverled.doortables import door_table
from howeverled.joinedpieces import piece_behind, piece_beside
from howeverled.kinds import are_different, is_web
from howeverled.lengths import length_table
from howeverled.piecekinds import need_two_doors
from howeverled.swaps import alike_one
from howeverled.worths import worth_of


class Piece:
    """A web with doors."""

    def __init__(self, web, *doors):
        need(is_web(web), "web")
        need(are_different(web[0], doors), "doors")
        self._web = web
        self._doors = doors

    def worth(self):
        """As worth_of."""
        return worth_of(self.told())

    def table(self):
        """As door_table."""
        return door_table(self.told())

    def lengths(self):
        """As length_table."""
        return length_table(self.told())

    def beside(self, other):
        """A new Piece, by piece_beside."""
        need_two_doors(self.told(), "piece")
        need(isinstance(other, Piece), "other")
        web, doors = piece_beside(self.told(), other.told())
        return Piece(web, *doors)

    def behind(self, other):
        """A new Piece, by piece_behind."""
        need_two_doors(self.told(), "piece")
        need(isinstance(other, Piece), "other")
        web, doors = piece_behind(self.told(), other.told())
        return Piece(web, *doors)

    def like(self, other):
        """As alike_one."""
        need(isinstance(other, Piece), "other")
        return alike_one(self.told(), other.told())

    def told(self):
        """The pair of the web and the doors."""
        return (self._web, self._doors)

    def __eq__(self, other):
        return isinstance(other, Piece) and self._web == other._web and self._doors == other._doors
