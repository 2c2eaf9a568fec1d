"""The least sets of channels that, made calls, leave no ring."""

from ascalls.judging import is_as_calls
from ascalls.programchanges import with_calls
from ascalls.programparts import channel_of
from ascalls.stands import Moves, Search, first_stand


def ring_sets(program):
    """The set of the least ring sets."""
    moves = Moves(program)
    places, heads = first_stand(program)
    search = Search((places, heads, ()))
    found = []
    watched = search.next_found()
    while watched is not None:
        names = tuple([channel[0] for channel, head in zip(program[1], watched[1]) if len(head) > 0])
        # No head loses a name, so behind a ring set there are only ring sets that include it.
        if not any([includes(names, ring_set) for ring_set in found]):
            if moves.crossing_take(watched) is not None:
                found.append(names)
            else:
                search.lead_on(watched, moves.watched_after(watched))
        watched = search.next_found()
    return _least_of(found)


def least_calls(program):
    """The set of the least sets of channels that suffice."""
    found = ((),)
    for ring_set in ring_sets(program):
        # A set that has one of these names already comes out as itself, and its longer ones are dropped.
        found = _least_of([tuple(sorted(set(names + (name,)))) for names in found for name in ring_set])
    return found


def greatest_others(program):
    """The set of the greatest sets of channels that do not suffice."""
    open_names = names_of_no_calls(program)
    others = [tuple([name for name in open_names if name not in ring_set]) for ring_set in ring_sets(program)]
    return tuple(sorted(set(others)))


def suffices(program, names):
    """Whether the program with these channels made calls is as calls."""
    return is_as_calls(with_calls(program, names))


def needs_call(program, name):
    """Whether a channel is in all least sets that suffice."""
    channel_of(program, name)
    return (name,) in ring_sets(program)


def names_of_no_calls(program):
    """The tuple of the names of the channels that are not calls, ascending."""
    return tuple([channel[0] for channel in program[1] if channel[3] != "call"])


def includes(names, others):
    """Whether a set has all the names of another one."""
    return all([name in names for name in others])


def _least_of(sets):
    """The set of those of these sets that include no other one of them."""
    least = [names for names in sets if not any([other != names and includes(names, other) for other in sets])]
    return tuple(sorted(set(least)))
