"""A second, plain reading of the document's [50] to [52], to compare the program with."""

from tests import model, standmodel
from tests.samples import kinds_in


def counted(program, only):
    """The names of the channels whose letters count."""
    return {row[0] for row in program[1] if row[3] != 'call' and only in (None, row[0])}


def lying(state, only):
    """How many letters that count lie after a run."""
    names = counted(state.program, only)
    return sum(len(letters) for name, letters in state.lying.items() if name in names)


def grows(program, only, move):
    """Whether a move grows."""
    doing = model.arrows_of(program)[move[0]][1]
    return len(move) == 1 and doing[0] == 'put' and doing[1] in counted(program, only)


def is_number(thing):
    """Whether any value is a number."""
    return type(thing) is int and thing >= 0


def verdict(program, thing, only=None):
    """What the checker has to say: n or None, or ('raises', word, at)."""
    if not isinstance(thing, tuple) or not thing:
        return ('raises', 'shape', -1)
    if thing[0] == 'most' and len(thing) == 4 and is_number(thing[1]) and isinstance(thing[2], tuple):
        if all(isinstance(pair, tuple) and len(pair) == 2 and is_number(pair[1]) for pair in thing[2]):
            return verdict_of_most(program, *thing[1:], only)
    if thing[0] == 'endless' and len(thing) == 3 and isinstance(thing[2], tuple):
        return verdict_of_endless(program, *thing[1:], only)
    return ('raises', 'shape', -1)


def verdict_of_most(program, most, heights, run, only):
    """The same for "most"."""
    known = {repr(kinds_in(stand)) for stand in standmodel.all_stands(program)}
    told = [repr(kinds_in(stand)) for stand, _ in heights]
    for k, text in enumerate(told):
        if text not in known or text in told[:k]:
            return ('raises', 'stand', k)
    numbers = dict(heights)
    if standmodel.first(program) not in numbers:
        return ('raises', 'first', -1)
    for k, (stand, number) in enumerate(heights):
        if number > most:
            return ('raises', 'above', k)
        for move, later in standmodel.moves(program, stand).items():
            if later not in numbers or numbers[later] < number + grows(program, only, move):
                return ('raises', 'move', k)
    try:
        state = standmodel.state_after(program, run)
    except ValueError as error:
        return ('raises', *error.args)
    return most if lying(state, only) == most else ('raises', 'lying', -1)


def verdict_of_endless(program, run, steps, only):
    """The same for "endless"."""
    try:
        state = standmodel.state_after(program, run)
    except ValueError as error:
        return ('raises', *error.args)
    first = stand = model.stand_of(state)
    for k, step in enumerate(steps):
        found = {repr(kinds_in(move)): later for move, later in standmodel.moves(program, stand).items()}
        if repr(kinds_in(step)) not in found:
            return ('raises', 'move', k)
        stand = found[repr(kinds_in(step))]
    if stand != first:
        return ('raises', 'back', -1)
    if not any(grows(program, only, step) for step in steps):
        return ('raises', 'grows', -1)
    return None
