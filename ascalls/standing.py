"""The stands that can come in a program that is as calls, and what never happens in it."""

from ascalls.errors import NotUsable
from ascalls.judging import check_calls
from ascalls.programchanges import with_calls
from ascalls.programparts import doing_of
from ascalls.runs import steps_at
from ascalls.stands import Moves, Search, first_stand


def stands_of(program):
    """The set of the stands that can come."""
    check_calls(program)
    return tuple(sorted(set(list(graph_of(program)))))


def stuck_stands(program):
    """The set of the stands at which no step is possible and some party is at none of its ends."""
    return tuple([stand for stand in _still_stands(program) if not _is_at_ends(program, stand)])


def left_stands(program):
    """The set of the stands at which no step is possible, each party is at an end, and some letter lies."""
    stands = [stand for stand in _still_stands(program) if _is_at_ends(program, stand)]
    return tuple([stand for stand in stands if any([len(head) > 0 for head in stand[1]])])


def way_to(program, stand):
    """Any run of the fewest events that has this stand; None if there is none."""
    moves = Moves(program)
    if not moves.is_stand(stand):
        raise NotUsable("stand", -1)
    check_calls(program)
    search = Search(first_stand(program))
    found = search.next_found()
    while found is not None and found != stand:
        search.lead_on(found, moves.after(found))
        found = search.next_found()
    return None if found is None else search.way_to(found)


def never_done(program):
    """The set of the events that are in no run."""
    done = _events_done(program)
    events = [(name, k) for name, _, arrows in program[0] for k in range(len(arrows))]
    return tuple([event for event in events if event not in done])


def never_taken(program):
    """The set of the pairs (channel, letter) that some run puts and no run takes."""
    doings = [doing_of(program, event) for event in _events_done(program)]
    put = [(doing[1], doing[2]) for doing in doings if doing[0] == "put"]
    taken = [(doing[1], doing[2]) for doing in doings if doing[0] == "take"]
    return tuple(sorted(set([pair for pair in put if pair not in taken])))


def newly_stuck(program, names):
    """The stuck stands of the program with these channels made calls at which it has a step itself."""
    return tuple([stand for stand in stuck_stands(with_calls(program, names)) if len(steps_at(program, stand)) > 0])


def graph_of(program):
    """A dict of each stand that can come, with the list of the pairs of a move and the stand to which it leads."""
    moves = Moves(program)
    search = Search(first_stand(program))
    graph = {}
    stand = search.next_found()
    while stand is not None:
        graph[stand] = moves.after(stand)
        search.lead_on(stand, graph[stand])
        stand = search.next_found()
    return graph


def _still_stands(program):
    """The set of the stands that can come and at which no step is possible."""
    check_calls(program)
    graph = graph_of(program)
    # Where there is a move there is a step: a put that can be exchanged on a queue or a bag can also be done alone.
    stands = [stand for stand in graph if len(graph[stand]) == 0 and len(steps_at(program, stand)) == 0]
    return tuple(sorted(set(stands)))


def _is_at_ends(program, stand):
    """Whether each party is at one of its ends."""
    return all([place in party[1] for party, place in zip(program[0], stand[0])])


def _events_done(program):
    """A dict of True for each event that is in some run."""
    check_calls(program)
    graph = graph_of(program)
    return {event: True for stand in graph for move, _ in graph[stand] for event in move}
