"""A watch follows a running program, and tells which takes would close a ring."""

from ascalls.errors import InvalidEvent, NothingToUndo, NotUsable
from ascalls.eventtexts import event_line
from ascalls.kinds import is_guard, is_watch_event
from ascalls.letters import least_ring
from ascalls.moments import answer_to, crossings_of, first_moment, lying_rows, moment_after, reason_against, steps_of
from ascalls.programchecker import lets_program


class Watch:
    """A run of a program that may be changed meanwhile, and what its letters are ahead of and behind."""

    MOST = 40

    def __init__(self, program, *, guard="off"):
        lets_program(program)
        if not is_guard(guard):
            raise NotUsable("guard", -1)
        self._first = ("watch", program, guard)
        self._names = tuple([party[0] for party in program[0]])
        self._events = ()
        # The Moment before each watch event, and the one now.
        self._moments = (first_moment(program, guard),)
        self._started = 0
        self._finished = 0

    @property
    def program_now(self):
        """The program as it is now."""
        return self._moments[-1].program

    @property
    def places_now(self):
        """The tuple of the places of the parties."""
        return self._moments[-1].places

    @property
    def lying_now(self):
        """The rows (number, channel, letter, touched, behind) of the letters that lie."""
        return lying_rows(self._moments[-1])

    @property
    def steps_now(self):
        """The set of the steps that are possible."""
        return steps_of(self._moments[-1])

    @property
    def crossings_now(self):
        """The set of the takes that close a ring and that the guard alone can forbid."""
        return crossings_of(self._moments[-1])

    @property
    def ring_now(self):
        """Any ring of the run so far; None without one."""
        return least_ring(self._moments[-1].rounds)

    @property
    def guard_now(self):
        """The word of the guard; a word that is assigned is a watch event."""
        return self._moments[-1].guard

    @guard_now.setter
    def guard_now(self, value):
        self.go(("guard", value))

    def did(self, *events):
        """Do a step; the number of its letter."""
        return self.go(("did", events))

    def set_form(self, channel, form):
        """Give a channel another form."""
        return self.go(("form", channel, form))

    def set_guard(self, word):
        """Set the guard on or off."""
        return self.go(("guard", word))

    def add_arrow(self, party, arrow):
        """Give a party an arrow more."""
        return self.go(("arrow", party, arrow))

    def mark(self, name):
        """Mark this moment."""
        return self.go(("mark", name))

    def go(self, event):
        """Apply a watch event; the answer to it."""
        self._started = self._started + 1
        finished = self._finished + 1
        try:
            return self._apply(event)
        finally:
            self._finished = finished

    def __call__(self, event):
        return self.go(event)

    def __getitem__(self, at):
        if at not in self._names:
            raise NotUsable("party", -1)
        return self.places_now[self._names.index(at)]

    def __contains__(self, x):
        return x in self._names

    def __iter__(self):
        return iter(self._names)

    def __len__(self):
        return len(self._events)

    def __eq__(self, other):
        return isinstance(other, Watch) and self._first == other._first and self._events == other._events

    def __str__(self):
        if len(self._events) == 0:
            return "-"
        return " / ".join([event_line(event) for event in self._events])

    def tried(self, *events):
        """The program, the places and the letters that lie after these watch events."""
        moment = self._moments[-1]
        for k, event in enumerate(events):
            reason = _reason_for(moment, len(self._events) + k, event)
            if reason is not None:
                raise InvalidEvent(event, reason)
            moment = moment_after(moment, event)
        return (moment.program, moment.places, lying_rows(moment))

    def undo(self):
        """Take back the last watch event; this event."""
        self._started = self._started + 1
        finished = self._finished + 1
        try:
            if len(self._events) == 0:
                raise NothingToUndo(0)
            event = self._events[-1]
            self._events = self._events[:-1]
            self._moments = self._moments[:-1]
            return event
        finally:
            self._finished = finished

    def do_all(self, *events, keep=False):
        """Apply watch events in order, all or none, or with keep as many as are possible; their number."""
        self._started = self._started + 1
        finished = self._finished + 1
        events_before = self._events
        moments_before = self._moments
        try:
            self.follow(events)
            return len(events)
        except InvalidEvent:
            if not keep:
                self._events = events_before
                self._moments = moments_before
            raise
        finally:
            self._finished = finished

    def follow(self, events):
        """Apply watch events in order, up to the first that is not possible, without counting operations."""
        for event in events:
            self._apply(event)

    def tally(self):
        """The numbers of started and of finished operations."""
        return (self._started, self._finished)

    def barred(self, event):
        """The reason why any value is not possible as a watch event; None if it is."""
        return _reason_for(self._moments[-1], len(self._events), event)

    def table(self):
        """The list of a string for each letter that lies."""
        return [_line_of(row) for row in self.lying_now]

    def letters_since(self, name):
        """The set of the numbers of the letters put after a mark."""
        return tuple(range(self._count_at(name), len(self._moments[-1].letters)))

    def is_sure_since(self, name):
        """Whether no letter that was put before a mark lies."""
        return not any([row[2] for row in self._moments[-1].letters[:self._count_at(name)]])

    def log(self):
        """The tuple of the beginning and the watch events."""
        return (self._first,) + self._events

    def _apply(self, event):
        """Apply a watch event without counting it; the answer to it."""
        reason = self.barred(event)
        if reason is not None:
            raise InvalidEvent(event, reason)
        before = self._moments[-1]
        self._events = self._events + (event,)
        self._moments = self._moments + (moment_after(before, event),)
        return answer_to(before, event)

    def _count_at(self, name):
        """How many letters had been put at a mark."""
        for known, count in self._moments[-1].marks:
            if known == name:
                return count
        raise NotUsable("name", -1)


def _reason_for(moment, count, event):
    """The reason why any value is not possible as a watch event after so many others; None if it is."""
    if not is_watch_event(event):
        return "shape"
    if count >= Watch.MOST:
        return "full"
    return reason_against(moment, event)


def _line_of(row):
    """The string of a letter that lies."""
    number, channel, letter, touched, behind = row
    names = ",".join(touched)
    after = ",".join([str(other) for other in behind]) if len(behind) > 0 else "-"
    return f"{number:>3} {channel:<8} {letter:<8} {names} {after}"
