"""How a standing comes to its marked forest, line by line."""

from howeverled.errors import InvalidPaper
from howeverled.kinds import is_same, is_tuple_of
from howeverled.marking import marked_of, need_rooted, rows_taken

WORDS = ("line", "most", "mark")


def mark_paper(web, purses, root):
    """For each line that is taken (line, i, mark), in the sequence in which they are taken."""
    need_rooted(web, purses, root)
    return tuple(rows_taken(web, purses, root))


def lets_marks(web, purses, root, thing):
    """The marked forest, if the thing is mark_paper of the standing by the root."""
    paper = mark_paper(web, purses, root)
    if not isinstance(thing, tuple):
        raise InvalidPaper("shape", -1)
    for place, row in enumerate(thing):
        if not is_tuple_of(3, row):
            raise InvalidPaper("shape", place)
        if place == len(paper):
            raise InvalidPaper("line", place)
        for word, due, told in zip(WORDS, paper[place], row):
            if not is_same(due, told):
                raise InvalidPaper(word, place)
    if len(thing) < len(paper):
        raise InvalidPaper("end", -1)
    return marked_of(web, purses, root)
