"""Webs of lines in a row, and of lines that leave one house."""


def row_web(rooms):
    """The line of place k leads from house k to house k + 1; a room of 0 gives none."""
    lines = [(place, place + 1, room) for place, room in enumerate(rooms) if room > 0]
    return (len(rooms) + 1, tuple(lines))


def star_web(rooms):
    """The line of place k leads from house 0 to house k + 1; a room of 0 gives none."""
    lines = [(0, place + 1, room) for place, room in enumerate(rooms) if room > 0]
    return (len(rooms) + 1, tuple(lines))
