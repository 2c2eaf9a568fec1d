"""Whether a program is as calls, and the shortest runs that have a ring."""

from ascalls.errors import NotCalls
from ascalls.letters import shortest_ring
from ascalls.stands import Moves, Search, first_stand


def is_as_calls(program):
    """Whether a program is as calls."""
    return ring_run(program) is None


def fewest_to_ring(program):
    """The fewest events of a run with a ring; None if there is no such run."""
    found = ring_run(program)
    return None if found is None else len(found[0])


def ring_run(program):
    """Any run with a ring that has the fewest events, and any ring of it; None if there is no such run."""
    run, _ = run_or_table(program)
    return None if run is None else (run, shortest_ring(program, run))


def check_calls(program):
    """NotCalls if a program is not as calls."""
    found = ring_run(program)
    if found is not None:
        run, ring = found
        raise NotCalls(run, ring)


def run_or_table(program):
    """A shortest run with a ring, and None; or None, and the list of all watched stands that can come."""
    moves = Moves(program)
    places, heads = first_stand(program)
    search = Search((places, heads, ()))
    watched = search.next_found()
    while watched is not None:
        take = moves.crossing_take(watched)
        if take is not None:
            return (search.way_to(watched) + (take,), None)
        search.lead_on(watched, moves.watched_after(watched))
        watched = search.next_found()
    return (None, search.all_found())
