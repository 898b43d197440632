"""A live exchange: events are done and taken back."""

from howeverled.checks import need
from howeverled.errors import InvalidEvent, NothingToUndo
from howeverled.kinds import is_positive
from howeverled.leading import lead
from howeverled.liveasks import LiveAsks
from howeverled.mosts import bar_by
from howeverled.reasons import reason_by
from howeverled.stepping import step_by


class LiveWeb(LiveAsks):
    """An exchange of so many houses, without lines at first."""

    def __init__(self, size, rule):
        need(is_positive(size), "size")
        LiveAsks.__init__(self, (size, ()), (), rule)
        self._events = ()
        # For each event the web, the split and the rule ahead of it, and what go returned.
        self._steps = []

    def go(self, event):
        """The event is done: True for a payment that is paid, False for a refused one, None for all else."""
        reason = self.barred(event)
        if reason is not None:
            raise InvalidEvent(event, reason)
        web, split, done = step_by(self._web, self._split, event, self._rule)
        answer = done if event[0] == "pay" else None
        self._steps.append((self._web, self._split, self._rule, answer))
        self._events = (*self._events, event)
        self._take(web, split, event[1] if event[0] == "rule" else self._rule)
        return answer

    def barred(self, event):
        """The reason why the event can't be done, or None."""
        return reason_by(self._web, self._split, event)

    def add_house(self):
        """A house without lines is added."""
        return self.go(("house",))

    def add_line(self, one, other, near, far):
        """A line is put behind all lines, with near coins at one and far at other."""
        return self.go(("line", one, other, near, far))

    def widen(self, line, near, far):
        """Coins are added at the line's two ends."""
        return self.go(("widen", line, near, far))

    def narrow(self, line, near, far):
        """Coins are taken off at the line's two ends."""
        return self.go(("narrow", line, near, far))

    def close(self, line, near):
        """The line goes, near coins from its first house with it."""
        return self.go(("close", line, near))

    def pay(self, payer, payee, coins):
        """A payment is made or refused."""
        return self.go(("pay", payer, payee, coins))

    def turn(self, house, ring, coins):
        """As many coins as can be, at most these, are led along the ring."""
        return self.go(("turn", house, ring, coins))

    def follow(self, rule):
        """From now on payments are led by the rule."""
        return self.go(("rule", rule))

    def day(self):
        """A day ends."""
        return self.go(("day",))

    def do_all(self, events, keep=False):
        """The events are done one by one; if one is not let, those before it are undone unless they are to be kept."""
        need(isinstance(events, tuple), "events")
        need(isinstance(keep, bool), "keep")
        begin = len(self._events)
        answers = []
        for event in events:
            reason = self.barred(event)
            if reason is not None:
                if not keep:
                    self._back_to(begin)
                raise InvalidEvent(event, reason)
            answers.append(self.go(event))
        return tuple(answers)

    def undo(self, steps=1):
        """The last events of the log are taken back."""
        need(is_positive(steps), "steps")
        if steps > len(self._events):
            raise NothingToUndo(steps)
        self._back_to(len(self._events) - steps)

    def _back_to(self, many):
        """All events behind the first many are taken back."""
        if many < len(self._events):
            web, split, rule, _ = self._steps[many]
            self._take(web, split, rule)
            self._events = self._events[:many]
            self._steps = self._steps[:many]

    def tried(self, events):
        """The purses as they would be behind the events."""
        begin = len(self._events)
        self.do_all(events)
        purses = self._purses
        self._back_to(begin)
        return purses

    def log(self):
        """All events done, as they were told."""
        return self._events

    def tally(self):
        """For each house the coins that it paid, those that it received, and how many of its payments were refused."""
        rows = [[0, 0, 0] for _ in range(self._web[0])]
        for event, (_, _, _, answer) in zip(self._events, self._steps):
            if answer is not None:
                _, payer, payee, coins = event
                rows[payer][2] += 0 if answer else 1
                rows[payer][0] += coins if answer else 0
                rows[payee][1] += coins if answer else 0
        return tuple([tuple(row) for row in rows])

    def refusals(self):
        """For each refused payment its place in the log and the lot that barred it."""
        told = []
        for place, (web, split, _, answer) in enumerate(self._steps):
            if answer is False:
                _, payer, payee, _ = self._events[place]
                told.append((place, bar_by(web[1], split, payer, payee)))
        return tuple(told)

    def leadings(self):
        """For each payment made its place in the log, a split ahead of it, its leading, and the rule of this one."""
        told = []
        for place, (web, split, rule, answer) in enumerate(self._steps):
            if answer is True:
                _, payer, payee, coins = self._events[place]
                told.append((place, split, lead(web, split, payer, payee, coins, rule), rule))
        return tuple(told)

    def __eq__(self, other):
        if not isinstance(other, LiveWeb) or self._web != other._web or self._purses != other._purses:
            return False
        return self._rule == other._rule and self._events == other._events
