"""The checker of growth papers: it searches for nothing."""

from ascalls.errors import InvalidPaper
from ascalls.growth import counting_names, growing_moves
from ascalls.kinds import is_event, is_number, is_row
from ascalls.runs import letter_rows, stand_after
from ascalls.stands import Moves, first_stand


def lets_growth(program, thing, *, only=None):
    """The most letters that a growth paper states, None if it states that there is no bound."""
    growing = growing_moves(program, only)
    if is_row(thing, 4) and thing[0] == "most" and is_number(thing[1]) and _are_heights(thing[2]):
        _, most, heights, run = thing
        _check_stands(program, [stand for stand, _ in heights])
        _check_heights(program, heights, most, growing)
        names = counting_names(program, only)
        rows = letter_rows(program, run)
        if len([row for row in rows if row[3] is None and row[0] in names]) != most:
            raise InvalidPaper("lying", -1)
        return most
    if is_row(thing, 3) and thing[0] == "endless" and isinstance(thing[2], tuple):
        _check_round_trip(program, thing[1], thing[2], growing)
        return None
    raise InvalidPaper("shape", -1)


def _are_heights(thing):
    """Whether any value is a tuple of pairs of any value and a number."""
    if not isinstance(thing, tuple):
        return False
    return all([is_row(pair, 2) and is_number(pair[1]) for pair in thing])


def _check_stands(program, stands):
    """InvalidPaper if these values are not different stands, the first one among them."""
    moves = Moves(program)
    known = {}
    for k, stand in enumerate(stands):
        if not moves.is_stand(stand) or stand in known:
            raise InvalidPaper("stand", k)
        known[stand] = True
    if first_stand(program) not in known:
        raise InvalidPaper("first", -1)


def _check_heights(program, heights, most, growing):
    """InvalidPaper if a stand is too high, or too low for the moves that lead to it, or not among these."""
    moves = Moves(program)
    known = {stand: height for stand, height in heights}
    for k, (stand, height) in enumerate(heights):
        if height > most:
            raise InvalidPaper("above", k)
        for move, later in moves.after(stand):
            least = height + 1 if move in growing else height
            if later not in known or known[later] < least:
                raise InvalidPaper("move", k)


def _check_round_trip(program, run, steps, growing):
    """InvalidPaper if this is no run, or these are no moves from its stand back to it of which one grows."""
    letter_rows(program, run)
    moves = Moves(program)
    first = stand_after(program, run)
    stand = first
    for k, step in enumerate(steps):
        after = dict(moves.after(stand))
        if not _is_move_of(after, step):
            raise InvalidPaper("move", k)
        stand = after[step]
    if stand != first:
        raise InvalidPaper("back", -1)
    if not any([step in growing for step in steps]):
        raise InvalidPaper("grows", -1)


def _is_move_of(after, thing):
    """Whether any value is one of these moves."""
    if not isinstance(thing, tuple) or not all([is_event(event) for event in thing]):
        return False
    return thing in after
