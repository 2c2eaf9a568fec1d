"""A second, plain reading of the document's [54] to [56], to compare the program with."""

from tests import model, standmodel
from tests.samples import kinds_in


def done_in_runs(program, party, most=99):
    """The tuples of doings of a party in all runs of at most so many events."""
    arrows = model.arrows_of(program)
    states = model.all_states(program, most).values()
    return {tuple(arrows[event][1] for event in state.events if event[0] == party) for state in states}


def tuples_of(rows, most):
    """All tuples of at most so many doings that a table has."""
    found = {()}
    level = [((), 0)]
    for _ in range(most):
        level = [(doings + (doing,), j) for doings, i in level for doing, j in rows[i]]
        found |= {doings for doings, _ in level}
    return found


def with_others_done(program, party, stands):
    """These stands and all to which moves without this party lead."""
    found = set(stands)
    waiting = list(stands)
    while waiting:
        for move, later in standmodel.moves(program, waiting.pop()).items():
            if party not in {event[0] for event in move} and later not in found:
                found.add(later)
                waiting.append(later)
    return frozenset(found)


def sets_after(program, party, stands):
    """For each doing that a party can do next, the set of the stands that can come then."""
    arrows = model.arrows_of(program)
    found = {}
    for stand in stands:
        for move, later in standmodel.moves(program, stand).items():
            for event in move:
                if event[0] == party:
                    found.setdefault(arrows[event][1], set()).add(later)
    return {doing: with_others_done(program, party, after) for doing, after in found.items()}


def view_of(program, party):
    """The view table of what a party can do in a program that is as calls."""
    first = with_others_done(program, party, {standmodel.first(program)})
    table = {}
    waiting = [first]
    while waiting:
        stands = waiting.pop()
        if stands not in table:
            table[stands] = sets_after(program, party, stands)
            waiting.extend(table[stands].values())
    return least(table, first)


def least(table, first):
    """The view table that has the same as this one, a dict of dicts, from this row on."""
    parted = parted_pairs(table)
    heads = {}
    for name in table:
        heads[name] = next((other for other in table if frozenset((name, other)) not in parted), name)
    order = [heads[first]]
    for name in order:
        for doing in sorted(table[name]):
            if heads[table[name][doing]] not in order:
                order.append(heads[table[name][doing]])
    return tuple(tuple((doing, order.index(heads[table[name][doing]])) for doing in sorted(table[name])) for name in order)


def parted_pairs(table):
    """The pairs of rows that are not alike, found by the doings that part them."""
    pairs = [(name, other) for name in table for other in table if name != other]
    parted = {frozenset(pair) for pair in pairs if set(table[pair[0]]) != set(table[pair[1]])}
    size = None
    while size != len(parted):
        size = len(parted)
        for name, other in pairs:
            steps = set(table[name]) & set(table[other])
            if any(frozenset((table[name][doing], table[other][doing])) in parted for doing in steps):
                parted.add(frozenset((name, other)))
    return parted


def least_of_rows(rows):
    """The same for a list of rows, with any numbers."""
    return least({i: dict(row) for i, row in enumerate(rows)}, 0)


def verdict(thing):
    """What the checker has to say: the number of rows, or the word and the place."""
    if not isinstance(thing, tuple) or not thing or not all(isinstance(row, tuple) for row in thing):
        return ('shape', -1)
    if not all(isinstance(pair, tuple) and len(pair) == 2 for row in thing for pair in row):
        return ('shape', -1)
    if not all(is_doing(doing) and type(j) is int and j >= 0 for row in thing for doing, j in row):
        return ('shape', -1)
    for i, row in enumerate(thing):
        if [doing for doing, _ in row] != sorted({doing for doing, _ in row}):
            return ('order', i)
        if any(j >= len(thing) for _, j in row):
            return ('number', i)
        before = [j for other in thing[:i] for _, j in other]
        if i != 0 and i not in before:
            return ('met', i)
        for k, (_, j) in enumerate(row):
            if j > 1 + max([0] + before + [number for _, number in row[:k]]):
                return ('met', i)
    parted = parted_pairs({i: dict(row) for i, row in enumerate(thing)})
    for i in range(len(thing)):
        for j in range(i + 1, len(thing)):
            if frozenset((i, j)) not in parted:
                return ('alike', (i, j))
    return len(thing)


def is_doing(thing):
    """Whether any value is a doing."""
    if not isinstance(thing, tuple) or not all(type(word) is str for word in thing):
        return False
    names = all(1 <= len(word) <= 8 and word.isalpha() and word.isascii() and word.islower() for word in thing[1:])
    return names and ((len(thing) == 2 and thing[0] == 'do') or (len(thing) == 3 and thing[0] in ('put', 'take')))


def same(thing, other):
    """Whether two values are equal, kinds included."""
    return kinds_in(thing) == kinds_in(other)


def random_rows(random, most, doings):
    """Rows with any numbers, so that some may be alike and some not be met."""
    many = random.randint(1, most)
    rows = []
    for _ in range(many):
        row = {doing: random.randrange(many) for doing in random.sample(doings, random.randint(0, min(3, len(doings))))}
        rows.append(tuple(sorted(row.items())))
    return rows
