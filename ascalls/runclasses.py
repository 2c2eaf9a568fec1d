"""Runs as values that never change: compared, continued, and met by what they have in common."""

from ascalls.errors import NotUsable
from ascalls.kinds import is_event
from ascalls.letters import letters_of
from ascalls.programparts import is_index
from ascalls.programreadings import check_words
from ascalls.runs import lets_run, rows_of_run, stand_after


class Run:
    """A run of a program; what its operators return are new ones."""

    def __init__(self, program, events=()):
        lets_run(program, events)
        self.program = program
        self.events = events
        self._parts = tuple([_part_of(events, party[0]) for party in program[0]])

    @property
    def letters_now(self):
        """The rows of the letters of the run."""
        return letters_of(self.program, self.events)

    @property
    def stand_now(self):
        """The stand of the run."""
        return stand_after(self.program, self.events)

    def __len__(self):
        return len(self.events)

    def __getitem__(self, at):
        if not is_index(at, self.events):
            raise NotUsable("at", -1)
        return self.events[at]

    def __iter__(self):
        return iter(self.events)

    def __contains__(self, x):
        return is_event(x) and x in self.events

    def __str__(self):
        return "\n".join([f"{name} {k}" for name, k in self.events])

    def __add__(self, other):
        if not isinstance(other, tuple):
            raise NotUsable("events", -1)
        return Run(self.program, self.events + other)

    def __eq__(self, other):
        return isinstance(other, Run) and self.program == other.program and self._parts == other._parts

    def __le__(self, other):
        if not isinstance(other, Run):
            return NotImplemented
        return self.program == other.program and _are_first(self._parts, other._parts)

    def __ge__(self, other):
        if not isinstance(other, Run):
            return NotImplemented
        return self.program == other.program and _are_first(other._parts, self._parts)

    def __and__(self, other):
        if not isinstance(other, Run) or self.program != other.program:
            raise NotUsable("other", -1)
        counts = [_common_count(part, longer) for part, longer in zip(self._parts, other._parts)]
        return Run(self.program, _first_events(self.program, self.events, counts))

    @classmethod
    def read(cls, program, text):
        """The Run that a string writes."""
        lines = [] if text == "" else text.split("\n")
        events = [_event_read(line, at) for at, line in enumerate(lines)]
        return Run(program, tuple(events))


def _part_of(events, name):
    """The tuple of the events of the party of this name."""
    return tuple([event for event in events if event[0] == name])


def _are_first(parts, longer):
    """Whether the events of each party are the first ones, or all, of its events in the longer ones."""
    return all([part == other[:len(part)] for part, other in zip(parts, longer)])


def _event_read(line, at):
    """The event that a line, the one with this index, writes."""
    words = line.split(" ")
    check_words(words, ("name", "number"), at, 0)
    return (words[0], int(words[1]))


def _common_count(part, other):
    """How many events two tuples of events begin with in common."""
    return len([k for k in range(len(part)) if part[:k + 1] == other[:k + 1]])


def _first_events(program, events, counts):
    """The greatest run, in the order of these events, in which each party does at most so many of its first ones."""
    rows = rows_of_run(program, events, "events")
    puts = {row[3]: row[2] for row in rows if row[3] is not None}
    calls = [channel[0] for channel in program[1] if channel[3] == "call"]
    called = [row[2] for row in rows if row[0] in calls]
    left = {party[0]: count for party, count in zip(program[0], counts)}
    kept = []
    for k, event in enumerate(events):
        # On a call a put is done only together with the take, the event after it.
        together = events[k:k + 2] if k in called else (event,)
        if all([left[name] > 0 for name, _ in together]) and (k not in puts or puts[k] in kept):
            kept.append(k)
            left[event[0]] = left[event[0]] - 1
        else:
            # A party that cannot go on does none of its later events either.
            left[event[0]] = 0
    return tuple([events[k] for k in kept])
