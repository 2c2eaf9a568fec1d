"""The checker of programs."""

from ascalls.errors import InvalidPaper
from ascalls.kinds import is_arrow, is_channel_row, is_name, is_number_set
from ascalls.kinds import is_owner, is_pair_of_tuples, is_row, sides_of


def lets_program(thing):
    """How many arrows the parties of a program have; InvalidPaper for any value that is no program."""
    if not is_pair_of_tuples(thing):
        raise InvalidPaper("shape", -1)
    parties, channels = thing
    for i in range(len(channels)):
        _check_channel(channels, i)
    sides = sides_of(channels)
    for i in range(len(parties)):
        _check_party(parties, i)
        _check_arrows(parties[i], i, sides)
    _check_sides(parties, channels)
    return sum([len(party[2]) for party in parties])


def _check_channel(channels, i):
    """Channel i, where those before it are channels."""
    channel = channels[i]
    if not is_channel_row(channel) or (i > 0 and channel[0] <= channels[i - 1][0]):
        raise InvalidPaper("channel", i)
    if channel[1] == channel[2]:
        raise InvalidPaper("ends", i)


def _check_party(parties, i):
    """Party i without its arrows, where those before it are parties."""
    party = parties[i]
    if not is_row(party, 3) or not is_name(party[0]) or not isinstance(party[2], tuple):
        raise InvalidPaper("party", i)
    if i > 0 and party[0] <= parties[i - 1][0]:
        raise InvalidPaper("party", i)
    if not is_number_set(party[1]):
        raise InvalidPaper("finals", i)


def _check_arrows(party, i, sides):
    """The arrows of party i."""
    earlier = {}
    for k, arrow in enumerate(party[2]):
        if not is_arrow(arrow):
            raise InvalidPaper("arrow", (i, k))
        if arrow in earlier:
            raise InvalidPaper("twice", (i, k))
        if not is_owner(sides, party[0], arrow[1]):
            raise InvalidPaper("owner", (i, k))
        earlier[arrow] = True


def _check_sides(parties, channels):
    """The senders and takers of the channels are parties."""
    names = [party[0] for party in parties]
    for i, channel in enumerate(channels):
        if channel[1] not in names:
            raise InvalidPaper("sender", i)
        if channel[2] not in names:
            raise InvalidPaper("taker", i)
