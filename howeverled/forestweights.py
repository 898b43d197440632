"""The weights of all forests of a web."""

from howeverled.sweeps import NONE, breadth_by, forest_sums


def breadth_of(web):
    """The greatest number, over all houses, of houses up to it that have a line to one above it."""
    size, lines = web
    return breadth_by(lines, list(range(size)))


def forest_weight(web):
    """The sum of the weights of all forests."""
    size, lines = web
    return sum(forest_sums(size, lines, [NONE] * size, 0))


def tree_weight(web):
    """The sum of the weights of the forests that make the web one club."""
    size, lines = web
    return sum(forest_sums(size, lines, [0] * size, 0))


def signed_weight(web):
    """As the forest weight, with the sign changed for each line that a forest has less than a tree."""
    size, lines = web
    # Rooms below 0 change the sign for each line that a forest has. With size - 1 changes more,
    # those of a tree, it is as if each line that it lacks had changed it: two changes are none.
    below = [(one, other, -room) for one, other, room in lines]
    weight = sum(forest_sums(size, below, [NONE] * size, 0))
    return weight if size & 1 else -weight


def weights_by_lines(web):
    """For each number of lines below the size the weights of the forests of so many lines, added."""
    size, lines = web
    weights = forest_sums(size, lines, [NONE] * size, 1)
    return tuple(weights + [0] * (size - len(weights)))
