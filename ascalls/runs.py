"""Runs of a program: which tuples of events are runs, what can follow them, and where they lead."""

from ascalls.errors import InvalidPaper, NotUsable
from ascalls.programparts import find_arrow, find_channel, find_party


def is_run(program, thing):
    """Whether any value is a run."""
    try:
        lets_run(program, thing)
    except InvalidPaper:
        return False
    return True


def lets_run(program, thing):
    """The number of letters of a run; InvalidPaper for any value that is no run."""
    return len(letter_rows(program, thing))


def next_steps(program, made):
    """The set of the steps that are possible after a run."""
    return steps_at(program, stand_after(program, made))


def places_after(program, made):
    """The tuple with the place of each party after a run."""
    rows_of_run(program, made, "made")
    return _places_after(program, made)


def contents_of(program, made):
    """The tuple with the names of the letters that lie on each channel after a run."""
    return _contents_of(program, rows_of_run(program, made, "made"))


def stand_after(program, made):
    """The stand of a run."""
    contents = _contents_of(program, rows_of_run(program, made, "made"))
    heads = [head_of(channel[3], names) for channel, names in zip(program[1], contents)]
    return (_places_after(program, made), tuple(heads))


def letter_rows(program, thing):
    """The list of the rows (channel, letter, put, taken) of a run; InvalidPaper for any value that is no run."""
    if not isinstance(thing, tuple):
        raise InvalidPaper("shape", -1)
    places = {party[0]: 0 for party in program[0]}
    lying = {channel[0]: () for channel in program[1]}
    rows = []
    for k, event in enumerate(thing):
        arrow = find_arrow(program, event)
        if arrow is None:
            raise InvalidPaper("event", k)
        start, doing, end = arrow
        if start != places[event[0]]:
            raise InvalidPaper("place", k)
        if doing[0] == "put":
            if is_call(program, doing[1]) and not _is_taken_by(program, places, doing, thing[k + 1:k + 2]):
                raise InvalidPaper("channel", k)
            lying[doing[1]] = lying[doing[1]] + (len(rows),)
            rows.append((doing[1], doing[2], k, None))
        elif doing[0] == "take":
            number = letter_to_take(program, rows, lying[doing[1]], doing)
            if number is None:
                raise InvalidPaper("channel", k)
            lying[doing[1]] = tuple([other for other in lying[doing[1]] if other != number])
            rows[number] = rows[number][:3] + (k,)
        places[event[0]] = end
    return rows


def rows_of_run(program, made, word):
    """The list of the rows of a run; NotUsable with this word for any value that is no run."""
    try:
        rows = letter_rows(program, made)
    except InvalidPaper:
        raise NotUsable(word, -1) from None
    return rows


def steps_at(program, stand):
    """The set of the steps that are possible at a stand."""
    places = {party[0]: place for party, place in zip(program[0], stand[0])}
    heads = {channel[0]: head for channel, head in zip(program[1], stand[1])}
    steps = []
    # Parties and their arrows come in order, so the steps are ascending.
    for name, _, arrows in program[0]:
        for k, arrow in enumerate(arrows):
            if arrow[0] == places[name]:
                steps.extend(_steps_of(program, places, heads, (name, k), arrow[1]))
    return tuple(steps)


def _steps_of(program, places, heads, event, doing):
    """The list of the steps that begin with an event of this doing, at the place of its party."""
    if doing[0] == "do":
        return [(event,)]
    if is_call(program, doing[1]):
        return [(event, take) for take in _takes_at_once(program, places, doing)]
    if doing[0] == "put" or doing[2] in heads[doing[1]]:
        return [(event,)]
    return []


def _takes_at_once(program, places, doing):
    """The list of the events that can take a letter from a call at which it is put by this doing."""
    if doing[0] == "take":
        return []
    taker = find_channel(program, doing[1])[2]
    events = [(taker, k) for k in range(len(find_party(program, taker)[2]))]
    return [event for event in events if _is_taken_by(program, places, doing, (event,))]


def _is_taken_by(program, places, doing, following):
    """Whether the event that follows, if one does, can take the letter that this doing puts on a call."""
    for event in following:
        arrow = find_arrow(program, event)
        if arrow is not None and arrow[1] == ("take", doing[1], doing[2]):
            return arrow[0] == places[event[0]]
    return False


def letter_to_take(program, rows, lying, doing):
    """The number of the letter, of those that lie on the channel, that a take takes; None without one."""
    # A bag lets a letter pass those before it; on a queue, and on a call, the first one alone can be taken.
    numbers = lying if find_channel(program, doing[1])[3] == "bag" else lying[:1]
    for number in numbers:
        if rows[number][1] == doing[2]:
            return number
    return None


def is_call(program, name):
    """Whether the channel of this name is a call."""
    return find_channel(program, name)[3] == "call"


def _places_after(program, made):
    """The tuple with the place of each party after a run."""
    places = {party[0]: 0 for party in program[0]}
    for event in made:
        places[event[0]] = find_arrow(program, event)[2]
    return tuple([places[party[0]] for party in program[0]])


def _contents_of(program, rows):
    """The tuple with the names of the letters of these rows that lie on each channel."""
    lying = [row for row in rows if row[3] is None]
    return tuple([tuple([row[1] for row in lying if row[0] == channel[0]]) for channel in program[1]])


def head_of(form, names):
    """The head of a channel of this form on which letters of these names lie."""
    return tuple(sorted(set(names))) if form == "bag" else names[:1]
