"""Which values are names, doings, arrows, channels, parties, programs, events and watch events."""

LETTERS = "abcdefghijklmnopqrstuvwxyz"
FORMS = ("queue", "bag", "call")
GUARDS = ("on", "off")


def is_integer(thing):
    """Whether any value is an int that is not a bool."""
    return isinstance(thing, int) and not isinstance(thing, bool)


def is_number(thing):
    """Whether any value is an integer that is at least 0."""
    return is_integer(thing) and thing >= 0


def is_name(thing):
    """Whether any value is a string of one to eight lowercase letters."""
    if not isinstance(thing, str):
        return False
    return 1 <= len(thing) <= 8 and all([sign in LETTERS for sign in thing])


def is_form(thing):
    """Whether any value is one of the three forms of a channel."""
    return isinstance(thing, str) and thing in FORMS


def is_doing(thing):
    """Whether any value is a put, a take or a do."""
    if is_row(thing, 2):
        return thing[0] == "do" and is_name(thing[1])
    if is_row(thing, 3):
        return thing[0] in ("put", "take") and is_name(thing[1]) and is_name(thing[2])
    return False


def is_arrow(thing):
    """Whether any value is a place, a doing and a place."""
    if not is_row(thing, 3):
        return False
    return is_number(thing[0]) and is_doing(thing[1]) and is_number(thing[2])


def is_channel(thing):
    """Whether any value is a channel: its sender is not its taker."""
    return is_channel_row(thing) and thing[1] != thing[2]


def is_party(thing):
    """Whether any value is a party, whatever the channels of its arrows are."""
    if not is_row(thing, 3) or not is_name(thing[0]) or not is_number_set(thing[1]):
        return False
    arrows = thing[2]
    if not isinstance(arrows, tuple) or not all([is_arrow(arrow) for arrow in arrows]):
        return False
    return len(set(arrows)) == len(arrows)


def is_program(thing):
    """Whether any value is a program."""
    if not is_pair_of_tuples(thing):
        return False
    parties, channels = thing
    if not all([is_party(party) for party in parties]):
        return False
    if not all([is_channel(channel) for channel in channels]):
        return False
    names = [party[0] for party in parties]
    if not ascends(names) or not ascends([channel[0] for channel in channels]):
        return False
    if not all([channel[1] in names and channel[2] in names for channel in channels]):
        return False
    sides = sides_of(channels)
    return all([is_owner(sides, party[0], arrow[1]) for party in parties for arrow in party[2]])


def is_event(thing):
    """Whether any value is a pair of a name and a number."""
    return is_row(thing, 2) and is_name(thing[0]) and is_number(thing[1])


def is_guard(thing):
    """Whether any value is one of the two words of a guard."""
    return isinstance(thing, str) and thing in GUARDS


def is_watch_event(thing):
    """Whether any value is a watch event by form."""
    if is_row(thing, 2):
        if thing[0] == "did":
            return _is_step(thing[1])
        if thing[0] == "guard":
            return is_guard(thing[1])
        return thing[0] == "mark" and is_name(thing[1])
    if is_row(thing, 3) and is_name(thing[1]):
        if thing[0] == "form":
            return is_form(thing[2])
        return thing[0] == "arrow" and is_arrow(thing[2])
    return False


def is_row(thing, size):
    """Whether any value is a tuple of so many values."""
    return isinstance(thing, tuple) and len(thing) == size


def is_pair_of_tuples(thing):
    """Whether any value is a pair of two tuples."""
    return is_row(thing, 2) and isinstance(thing[0], tuple) and isinstance(thing[1], tuple)


def is_channel_row(thing):
    """Whether any value is a tuple of three names and a form."""
    if not is_row(thing, 4):
        return False
    return all([is_name(name) for name in thing[:3]]) and is_form(thing[3])


def is_number_set(thing):
    """Whether any value is an ascending tuple of numbers, none twice."""
    if not isinstance(thing, tuple) or not all([is_number(number) for number in thing]):
        return False
    return ascends(thing)


def ascends(row):
    """Whether each element of a list or tuple, all of one kind, is greater than the one before."""
    return all([row[k] < row[k + 1] for k in range(len(row) - 1)])


def sides_of(channels):
    """A dict of the sender and the taker of each channel, by its name."""
    return {channel[0]: (channel[1], channel[2]) for channel in channels}


def is_owner(sides, name, doing):
    """Whether the party of this name may do this doing, with the sides of the channels."""
    if doing[0] == "do":
        return True
    if doing[1] not in sides:
        return False
    sender, taker = sides[doing[1]]
    return name == (sender if doing[0] == "put" else taker)


def _is_step(thing):
    """Whether any value is a tuple of one or two pairs of a name and a number."""
    if not isinstance(thing, tuple) or len(thing) not in (1, 2):
        return False
    return all([is_event(event) for event in thing])
