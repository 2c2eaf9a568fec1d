"""The checker of least papers."""

from ascalls.callchecker import lets_calls
from ascalls.errors import InvalidPaper
from ascalls.kinds import is_pair_of_tuples, is_row
from ascalls.leastcalls import includes, names_of_no_calls
from ascalls.programchanges import with_calls
from ascalls.programparts import is_channel_set


def lets_least(program, thing):
    """How many least sets that suffice a least paper states; InvalidPaper for any other value."""
    if not is_pair_of_tuples(thing) or not all([is_row(pair, 2) for pairs in thing for pair in pairs]):
        raise InvalidPaper("shape", -1)
    for i, pairs in enumerate(thing):
        for k, (names, paper) in enumerate(pairs):
            before = [pair[0] for pair in pairs[:k]]
            if not _is_next_set(program, before, names):
                raise InvalidPaper("set", (i, k))
            _check_paper(with_calls(program, names), paper, (i, k))
    least = [names for names, _ in thing[0]]
    others = [names for names, _ in thing[1]]
    _check_left(names_of_no_calls(program), least, others)
    return len(least)


def _is_next_set(program, before, thing):
    """Whether any value is a set of channels that may stand behind these sets."""
    if not is_channel_set(program, thing) or not includes(names_of_no_calls(program), thing):
        return False
    if len(before) > 0 and thing <= before[-1]:
        return False
    return not any([includes(thing, names) or includes(names, thing) for names in before])


def _check_paper(program, paper, at):
    """InvalidPaper if this is no call paper of the form that belongs at this place."""
    try:
        states_calls = lets_calls(program, paper)
    except InvalidPaper as why:
        raise InvalidPaper("paper", at) from why
    if states_calls != (at[0] == 0):
        raise InvalidPaper("paper", at)


def _check_left(open_names, least, others):
    """InvalidPaper for the first set of these channels, by size and then ascending, of which nothing is told."""
    for size in range(len(open_names) + 1):
        for names in _sets_of(open_names, size):
            told = any([includes(names, known) for known in least]) or any([includes(known, names) for known in others])
            if not told:
                raise InvalidPaper("left", names)


def _sets_of(names, size):
    """The list of the sets of so many of these names, ascending."""
    if size == 0:
        return [()]
    found = []
    for k, name in enumerate(names):
        found.extend([(name,) + others for others in _sets_of(names[k + 1:], size - 1)])
    return found
