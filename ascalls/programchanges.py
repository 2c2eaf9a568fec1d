"""Changed programs: a channel, a party or an arrow more or less, and other forms of channels."""

from ascalls.errors import NotUsable
from ascalls.kinds import is_form, is_name
from ascalls.programchecker import lets_program
from ascalls.programparts import channel_of, is_channel_set, is_index, party_of

MIRRORED_WORDS = {"put": "take", "take": "put"}


def with_channel(program, channel):
    """The program with a channel more; InvalidPaper if this is no program."""
    parties, channels = program
    changed = (parties, _with_row(channels, channel))
    lets_program(changed)
    return changed


def without_channel(program, name):
    """The program without a channel and all arrows on it."""
    channel_of(program, name)
    return _without_channels(program, [name])


def with_party(program, party):
    """The program with a party more; InvalidPaper if this is no program."""
    parties, channels = program
    changed = (_with_row(parties, party), channels)
    lets_program(changed)
    return changed


def without_party(program, party):
    """The program without a party, its channels and all arrows on these."""
    party_of(program, party)
    names = [channel[0] for channel in program[1] if party in channel[1:3]]
    parties, channels = _without_channels(program, names)
    return (tuple([row for row in parties if row[0] != party]), channels)


def with_arrow(program, party, arrow):
    """The program in which a party has an arrow more, as its last; InvalidPaper if this is no program."""
    arrows = party_of(program, party)[2]
    changed = _with_arrows(program, party, arrows + (arrow,))
    lets_program(changed)
    return changed


def without_arrow(program, party, k):
    """The program in which a party lacks its arrow k."""
    arrows = party_of(program, party)[2]
    if not is_index(k, arrows):
        raise NotUsable("k", -1)
    return _with_arrows(program, party, arrows[:k] + arrows[k + 1:])


def with_form(program, name, form):
    """The program in which the channel of this name has this form."""
    channel_of(program, name)
    if not is_form(form):
        raise NotUsable("form", -1)
    return _with_forms(program, (name,), form)


def with_calls(program, names):
    """The program in which the channels of these names are calls."""
    if not is_channel_set(program, names):
        raise NotUsable("names", -1)
    return _with_forms(program, names, "call")


def mirrored(program):
    """The program in which sender and taker, and put and take, are exchanged everywhere."""
    parties = [(party, ends, tuple([_mirrored_arrow(arrow) for arrow in arrows])) for party, ends, arrows in program[0]]
    channels = [(name, taker, sender, form) for name, sender, taker, form in program[1]]
    return (tuple(parties), tuple(channels))


def _mirrored_arrow(arrow):
    start, doing, end = arrow
    if doing[0] == "do":
        return arrow
    return (start, (MIRRORED_WORDS[doing[0]], doing[1], doing[2]), end)


def _with_row(rows, row):
    """These channels or parties and any value: where its name belongs if it has a new one, otherwise last."""
    if not isinstance(row, tuple) or len(row) == 0 or not is_name(row[0]):
        return rows + (row,)
    if row[0] in [other[0] for other in rows]:
        return rows + (row,)
    at = len([other for other in rows if other[0] < row[0]])
    return rows[:at] + (row,) + rows[at:]


def _without_channels(program, names):
    """The program without the channels of these names and all arrows on them."""
    parties = []
    for party, ends, arrows in program[0]:
        left = [arrow for arrow in arrows if not _is_on(arrow, names)]
        parties.append((party, ends, tuple(left)))
    channels = [channel for channel in program[1] if channel[0] not in names]
    return (tuple(parties), tuple(channels))


def _is_on(arrow, names):
    """Whether an arrow puts on or takes from one of these channels; the word of a do is no channel."""
    return arrow[1][0] != "do" and arrow[1][1] in names


def _with_arrows(program, party, arrows):
    """The program in which the party of this name has just these arrows."""
    parties = [(row[0], row[1], arrows) if row[0] == party else row for row in program[0]]
    return (tuple(parties), program[1])


def _with_forms(program, names, form):
    """The program in which the channels of these names have this form."""
    channels = [channel[:3] + (form,) if channel[0] in names else channel for channel in program[1]]
    return (program[0], tuple(channels))
