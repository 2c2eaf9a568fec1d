"""Runs in another order: direct runs, alike runs, and the events of one party."""

from ascalls.errors import NotCalls, NotUsable
from ascalls.letters import are_direct, least_ring, rounds_of
from ascalls.programparts import doing_of, party_of
from ascalls.runs import rows_of_run


def direct_run(program, made):
    """Any direct run that is alike to a run; NotCalls with a least ring if there is none."""
    rows = rows_of_run(program, made, "made")
    units = _units_of(made, rows)
    waiting = [[k for k, event in enumerate(made) if event[0] == party[0]] for party in program[0]]
    order = []
    unit = _next_unit(waiting, units)
    while len(unit) > 0:
        order.extend(unit)
        waiting = [[k for k in indexes if k not in unit] for indexes in waiting]
        unit = _next_unit(waiting, units)
    if len(order) < len(made):
        raise NotCalls(made, least_ring(rounds_of(program, made, rows)))
    return tuple([made[k] for k in order])


def are_alike(program, made, other):
    """Whether two runs are alike."""
    rows_of_run(program, made, "made")
    rows_of_run(program, other, "other")
    return all([_events_of(made, party[0]) == _events_of(other, party[0]) for party in program[0]])


def events_of(program, made, party):
    """The tuple of the events of a party in a run."""
    rows_of_run(program, made, "made")
    party_of(program, party)
    return _events_of(made, party)


def doings_of(program, made, party):
    """The tuple of the doings of a party in a run."""
    return tuple([doing_of(program, event) for event in events_of(program, made, party)])


def moves_of(program, made):
    """Yield the moves of a direct run."""
    rows = rows_of_run(program, made, "made")
    if not are_direct(rows):
        raise NotUsable("made", -1)
    units = _units_of(made, rows)
    for k in range(len(made)):
        if units[k][0] == k:
            yield tuple([made[at] for at in units[k]])


def _events_of(made, party):
    """The tuple of the events of the party of this name in a run."""
    return tuple([event for event in made if event[0] == party])


def _units_of(made, rows):
    """For each index in a run the tuple of those that are together in a direct run: a put and its take, or itself."""
    units = [(k,) for k in range(len(made))]
    for row in rows:
        if row[3] is not None:
            units[row[2]] = (row[2], row[3])
            units[row[3]] = (row[2], row[3])
    return units


def _next_unit(waiting, units):
    """A unit that can be next, where each party waits with the first of its indexes; () without one."""
    heads = [indexes[0] for indexes in waiting if len(indexes) > 0]
    for k in heads:
        if all([other in heads for other in units[k]]):
            return units[k]
    return ()
