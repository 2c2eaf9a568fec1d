"""Moments of a watch: what it knows then, which watch events are possible, and what these lead to."""

from ascalls.letters import letters_behind, spots_of
from ascalls.programchanges import with_arrow, with_form
from ascalls.programparts import find_arrow, find_channel, find_party
from ascalls.runs import head_of, is_call, letter_to_take, steps_at


class Moment:
    """What a watch knows at one moment; it never changes.

    For each letter that was put, by its number, there is a row (channel, letter, lies); for each party the tuple of the
    letters of which it did an event; for each mark its name and how many letters had been put then.
    """

    def __init__(self, program, places, guard, marks, letters, rounds):
        self.program = program
        self.places = places
        self.guard = guard
        self.marks = marks
        self.letters = letters
        self.rounds = rounds

    def with_program(self, program):
        """The same with another program."""
        return Moment(program, self.places, self.guard, self.marks, self.letters, self.rounds)

    def with_guard(self, guard):
        """The same with another guard."""
        return Moment(self.program, self.places, guard, self.marks, self.letters, self.rounds)

    def with_mark(self, name):
        """The same with a mark more."""
        marks = self.marks + ((name, len(self.letters)),)
        return Moment(self.program, self.places, self.guard, marks, self.letters, self.rounds)

    def with_event(self, name, place, letters, numbers):
        """The same after an event of a party, that is then at this place: all letters then, and those it was one of."""
        places = []
        rounds = []
        for party, before, done in zip(self.program[0], self.places, self.rounds):
            places.append(place if party[0] == name else before)
            rounds.append(done + numbers if party[0] == name else done)
        return Moment(self.program, tuple(places), self.guard, self.marks, letters, tuple(rounds))


def first_moment(program, guard):
    """The Moment before all watch events."""
    return Moment(program, tuple([0 for _ in program[0]]), guard, (), (), tuple([() for _ in program[0]]))


def reason_against(moment, event):
    """The first reason why a watch event by form is not possible; None if it is."""
    if event[0] == "did":
        return _reason_against_step(moment, event[1])
    if event[0] == "form":
        return _reason_against_form(moment, event[1], event[2])
    if event[0] == "arrow":
        return _reason_against_arrow(moment, event[1], event[2])
    if event[0] == "guard":
        return "same" if moment.guard == event[1] else None
    return "twice" if event[1] in [name for name, _ in moment.marks] else None


def moment_after(moment, event):
    """The Moment after a watch event that is possible."""
    if event[0] == "did":
        for name, k in event[1]:
            moment = _after_event(moment, name, k)
        return moment
    if event[0] == "form":
        return moment.with_program(with_form(moment.program, event[1], event[2]))
    if event[0] == "arrow":
        return moment.with_program(with_arrow(moment.program, event[1], event[2]))
    if event[0] == "guard":
        return moment.with_guard(event[1])
    return moment.with_mark(event[1])


def answer_to(moment, event):
    """The number of the letter that a watch event puts or takes, where it is possible; None without one."""
    if event[0] != "did":
        return None
    # A letter that is exchanged is put by the first event of its step.
    doing = find_arrow(moment.program, event[1][0])[1]
    if doing[0] == "do":
        return None
    return len(moment.letters) if doing[0] == "put" else _letter_for(moment, doing)


def lying_rows(moment):
    """The ascending tuple of the rows (number, channel, letter, touched, behind) of the letters that lie."""
    spots = spots_of(moment.rounds)
    found = []
    for number, (channel, letter, lies) in enumerate(moment.letters):
        if lies:
            behind = letters_behind(moment.rounds, spots, number)
            still = [other for other in sorted(set(list(behind))) if moment.letters[other][2]]
            found.append((number, channel, letter, _touched_by(moment, number, behind), tuple(still)))
    return tuple(found)


def steps_of(moment):
    """The set of the steps that are possible."""
    closing = [(event,) for event in crossings_of(moment)] if moment.guard == "on" else []
    return tuple([step for step in _steps_unguarded(moment) if step not in closing])


def crossings_of(moment):
    """The set of the takes that close a ring and that the guard alone can forbid."""
    return tuple([step[0] for step in _steps_unguarded(moment) if _closes(moment, step[0])])


def _reason_against_step(moment, step):
    for k in range(len(step)):
        reason = _reason_against_event(moment, step, k)
        if reason is not None:
            return reason
    return None


def _reason_against_event(moment, step, k):
    """The first reason against event k of a step."""
    name, number = step[k]
    party = find_party(moment.program, name)
    if party is None:
        return "party"
    if number >= len(party[2]):
        return "arrow"
    start, doing, _ = party[2][number]
    if start != _place_of(moment, name):
        return "place"
    fits = _fits_alone(moment, doing) if len(step) == 1 else _fits_in_pair(moment, step, k)
    if not fits:
        return "channel"
    if moment.guard == "on" and _closes(moment, step[0]):
        return "cross"
    return None


def _fits_alone(moment, doing):
    """Whether the channel allows a doing as that of the only event of a step."""
    if doing[0] == "do":
        return True
    if is_call(moment.program, doing[1]):
        return False
    return doing[0] == "put" or _letter_for(moment, doing) is not None


def _fits_in_pair(moment, step, k):
    """Whether event k of two is a put on a call, or the take that belongs to the one before."""
    put = find_arrow(moment.program, step[0])[1]
    if k == 0:
        return put[0] == "put" and is_call(moment.program, put[1])
    return find_arrow(moment.program, step[1])[1] == ("take", put[1], put[2])


def _reason_against_form(moment, name, form):
    channel = find_channel(moment.program, name)
    if channel is None:
        return "channel"
    if len(_lying_on(moment, name)) > 0:
        return "busy"
    return "same" if channel[3] == form else None


def _reason_against_arrow(moment, name, arrow):
    party = find_party(moment.program, name)
    if party is None:
        return "party"
    doing = arrow[1]
    if doing[0] != "do":
        channel = find_channel(moment.program, doing[1])
        if channel is None or channel[1 if doing[0] == "put" else 2] != name:
            return "channel"
    return "twice" if arrow in party[2] else None


def _after_event(moment, name, k):
    """The Moment after an event that is possible, or that is a part of a step that is."""
    _, doing, end = find_arrow(moment.program, (name, k))
    letters = moment.letters
    if doing[0] == "do":
        return moment.with_event(name, end, letters, ())
    if doing[0] == "put":
        return moment.with_event(name, end, letters + ((doing[1], doing[2], True),), (len(letters),))
    number = _letter_for(moment, doing)
    taken = (doing[1], doing[2], False)
    return moment.with_event(name, end, letters[:number] + (taken,) + letters[number + 1:], (number,))


def _place_of(moment, name):
    """The place of the party of this name."""
    return [place for party, place in zip(moment.program[0], moment.places) if party[0] == name][0]


def _lying_on(moment, name):
    """The tuple of the numbers of the letters that lie on a channel."""
    return tuple([number for number, row in enumerate(moment.letters) if row[0] == name and row[2]])


def _letter_for(moment, doing):
    """The number of the letter that a take takes now; None without one."""
    return letter_to_take(moment.program, moment.letters, _lying_on(moment, doing[1]), doing)


def _steps_unguarded(moment):
    """The set of the steps that are possible with the guard off."""
    heads = []
    for channel in moment.program[1]:
        names = [moment.letters[number][1] for number in _lying_on(moment, channel[0])]
        heads.append(head_of(channel[3], tuple(names)))
    return steps_at(moment.program, (moment.places, tuple(heads)))


def _closes(moment, event):
    """Whether the first event of a step that is possible but for the guard is a take that closes a ring."""
    doing = find_arrow(moment.program, event)[1]
    # A step that begins with a put may exchange a letter, but behind a letter that is put just now there is none.
    if doing[0] != "take":
        return False
    number = _letter_for(moment, doing)
    behind = letters_behind(moment.rounds, spots_of(moment.rounds), number)
    return event[0] in _touched_by(moment, number, behind)


def _touched_by(moment, number, behind):
    """The set of the parties that did an event of a letter, or of one of those behind it."""
    names = []
    for party, letters in zip(moment.program[0], moment.rounds):
        if number in letters or any([letter in behind for letter in letters]):
            names.append(party[0])
    return tuple(names)
