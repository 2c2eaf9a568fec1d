"""Parts of a program, found by names, places and events."""

from ascalls.errors import NotUsable
from ascalls.kinds import ascends, is_number, is_row


def arrows_from(program, party, place):
    """The set of the indexes of the arrows of a party that begin at a place."""
    arrows = party_of(program, party)[2]
    if not is_number(place) or place not in places_of(program, party):
        raise NotUsable("place", -1)
    return tuple([k for k, arrow in enumerate(arrows) if arrow[0] == place])


def doing_of(program, event):
    """The doing of the arrow of an event."""
    arrow = find_arrow(program, event)
    if arrow is None:
        raise NotUsable("event", -1)
    return arrow[1]


def channel_of(program, name):
    """The channel of this name."""
    channel = find_channel(program, name)
    if channel is None:
        raise NotUsable("name", -1)
    return channel


def channels_between(program, party, other):
    """The set of the names of the channels from one of two parties to the other one, whichever."""
    party_of(program, party)
    if other == party or find_party(program, other) is None:
        raise NotUsable("other", -1)
    both = ((party, other), (other, party))
    return tuple([channel[0] for channel in program[1] if channel[1:3] in both])


def letters_on(program, name):
    """The set of the letter names that arrows put on a channel."""
    channel_of(program, name)
    doings = [arrow[1] for party in program[0] for arrow in party[2]]
    letters = [doing[2] for doing in doings if doing[0] == "put" and doing[1] == name]
    return tuple(sorted(set(letters)))


def places_of(program, party):
    """The set of the places of a party: 0, its ends and the places of its arrows."""
    _, ends, arrows = party_of(program, party)
    places = [0, *ends]
    for start, _, end in arrows:
        places.append(start)
        places.append(end)
    return tuple(sorted(set(places)))


def party_of(program, party):
    """The party of this name."""
    found = find_party(program, party)
    if found is None:
        raise NotUsable("party", -1)
    return found


def find_party(program, name):
    """The party of this name; None for any value that is the name of none."""
    for party in program[0]:
        if party[0] == name:
            return party
    return None


def find_channel(program, name):
    """The channel of this name; None for any value that is the name of none."""
    for channel in program[1]:
        if channel[0] == name:
            return channel
    return None


def find_arrow(program, event):
    """The arrow of this event; None for any value that is no party's name with the index of an arrow of it."""
    if not is_row(event, 2):
        return None
    party = find_party(program, event[0])
    if party is None or not is_index(event[1], party[2]):
        return None
    return party[2][event[1]]


def is_index(thing, row):
    """Whether any value is the index of an element of a tuple, counted from 0."""
    return is_number(thing) and thing < len(row)


def is_channel_set(program, thing):
    """Whether any value is an ascending tuple of names of channels."""
    if not isinstance(thing, tuple) or not all([find_channel(program, name) is not None for name in thing]):
        return False
    return ascends(thing)
