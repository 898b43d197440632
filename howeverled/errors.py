"""All errors of the package, by family; each keeps the fields that it is given."""


class LedError(ValueError):
    """The base of all errors of the package."""


class PaperError(LedError):
    """A checker turns a paper down."""


class WebError(LedError):
    """Something about a web, or about what is asked of it, does not hold."""


class LiveError(LedError):
    """A live exchange can't do what it is told."""


class TextError(LedError):
    """A text can't be read."""


class InvalidPaper(PaperError):
    """A paper is turned down for the reason word, at the place at."""

    def __init__(self, word, at):
        self.word = word
        self.at = at


class NotUsable(WebError):
    """The parameter called word is not as stated, at the place at."""

    def __init__(self, word, at):
        self.word = word
        self.at = at


class Refused(WebError):
    """A payment is refused; the lot can pay out too little."""

    def __init__(self, lot):
        self.lot = lot


class Parted(WebError):
    """Steps do not lead from here to there."""

    def __init__(self, here, there):
        self.here = here
        self.there = there


class Unasked(WebError):
    """One coin is not asked both ways along the line."""

    def __init__(self, line):
        self.line = line


class NotWide(WebError):
    """The web is not wide for the coins."""

    def __init__(self, coins):
        self.coins = coins


class InvalidEvent(LiveError):
    """The event can't be done, for the reason."""

    def __init__(self, event, reason):
        self.event = event
        self.reason = reason


class NothingToUndo(LiveError):
    """There are fewer steps than are to be undone."""

    def __init__(self, steps):
        self.steps = steps


class InvalidText(TextError):
    """The field of the line can't stand there."""

    def __init__(self, line, field):
        self.line = line
        self.field = field


class InvalidRow(TextError):
    """The row reads well, but tells nothing that there is."""

    def __init__(self, row):
        self.row = row
