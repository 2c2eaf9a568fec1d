"""The checker of call papers: it searches for nothing."""

from ascalls.errors import InvalidPaper
from ascalls.kinds import is_row
from ascalls.letters import goes_ahead, rounds_of, spots_of
from ascalls.programparts import is_index
from ascalls.runs import letter_rows
from ascalls.stands import Moves, first_stand


def lets_calls(program, thing):
    """True if a call paper states that the program is as calls, False if it states that it is not."""
    if is_row(thing, 2) and thing[0] == "table" and isinstance(thing[1], tuple):
        _check_table(program, thing[1])
        return True
    if is_row(thing, 3) and thing[0] == "ring":
        _check_ring(program, thing[1], thing[2])
        return False
    raise InvalidPaper("shape", -1)


def _check_table(program, stands):
    """InvalidPaper if moves lead out of these watched stands, or one of them crosses."""
    moves = Moves(program)
    known = {}
    for k, watched in enumerate(stands):
        if not moves.is_watched(watched) or watched in known:
            raise InvalidPaper("stand", k)
        known[watched] = True
    places, heads = first_stand(program)
    if (places, heads, ()) not in known:
        raise InvalidPaper("first", -1)
    for k, watched in enumerate(stands):
        if not all([later in known for _, later in moves.watched_after(watched)]):
            raise InvalidPaper("move", k)
        if moves.crossing_take(watched) is not None:
            raise InvalidPaper("cross", k)


def _check_ring(program, run, ring):
    """InvalidPaper if this is no run, or no ring of it."""
    rows = letter_rows(program, run)
    if not isinstance(ring, tuple) or not all([is_index(letter, rows) for letter in ring]):
        raise InvalidPaper("ring", -1)
    if len(ring) < 2 or len(set(ring)) != len(ring):
        raise InvalidPaper("ring", -1)
    spots = spots_of(rounds_of(program, run, rows))
    for k, letter in enumerate(ring):
        following = ring[k + 1] if k + 1 < len(ring) else ring[0]
        if not goes_ahead(spots, letter, following):
            raise InvalidPaper("ahead", k)
