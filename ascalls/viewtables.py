"""View tables: what a party can do, and the least table of what arcs allow."""

from ascalls.judging import check_calls
from ascalls.programparts import party_of
from ascalls.standing import graph_of


def view_rows(program, party):
    """The view table that has just what a party can do."""
    arrows = party_of(program, party)[2]
    check_calls(program)
    doings = {(party, k): arrow[1] for k, arrow in enumerate(arrows)}
    graph = graph_of(program)
    numbers = {stand: number for number, stand in enumerate(graph)}
    arcs = [[(doing_in(move, doings), numbers[later]) for move, later in graph[stand]] for stand in graph]
    return least_rows(arcs)


def doing_in(move, doings):
    """The doing of that event of a move of which a dict tells one; None without such an event."""
    for event in move:
        if event in doings:
            return doings[event]
    return None


def least_rows(arcs):
    """The view table of what can be done from spot 0 on.

    For each spot there is a list of the arcs from it, pairs of a doing and the spot to which it leads; None as a doing
    stands for what is left out.
    """
    rows = _rows_of_sets(arcs)
    return _least_of(rows, row_classes(rows))


def row_classes(rows):
    """The list of a number for each row: alike rows, and they alone, have the same one."""
    classes = [0 for _ in rows]
    finer = _finer_classes(rows, classes)
    while finer != classes:
        classes = finer
        finer = _finer_classes(rows, classes)
    return classes


def _finer_classes(rows, classes):
    """The numbers of rows by their doings and by the classes to which these lead, in the order of the rows."""
    numbers = {}
    finer = []
    for row in rows:
        key = tuple([(doing, classes[j]) for doing, j in row])
        if key not in numbers:
            numbers[key] = len(numbers)
        finer.append(numbers[key])
    return finer


def _rows_of_sets(arcs):
    """The list of rows, some of them perhaps alike, each of them for a set of spots."""
    first = _with_silent(arcs, [0])
    numbers = {first: 0}
    waiting = [first]
    rows = []
    while len(rows) < len(waiting):
        after = _spots_after(arcs, waiting[len(rows)])
        row = []
        for doing in sorted(set(list(after))):
            spots = _with_silent(arcs, after[doing])
            if spots not in numbers:
                numbers[spots] = len(waiting)
                waiting.append(spots)
            row.append((doing, numbers[spots]))
        rows.append(tuple(row))
    return rows


def _spots_after(arcs, spots):
    """A dict of the list of the spots to which each doing leads from some of these."""
    after = {}
    for spot in spots:
        for doing, later in arcs[spot]:
            if doing is not None:
                after.setdefault(doing, []).append(later)
    return after


def _with_silent(arcs, spots):
    """The set of these spots and of those to which arcs without a doing lead from them."""
    known = {spot: True for spot in spots}
    waiting = list(known)
    at = 0
    while at < len(waiting):
        spot = waiting[at]
        at = at + 1
        for doing, later in arcs[spot]:
            if doing is None and later not in known:
                known[later] = True
                waiting.append(later)
    return tuple(sorted(set(waiting)))


def _least_of(rows, classes):
    """The view table with one row for each class that is met, numbered as they are met."""
    numbers = {classes[0]: 0}
    waiting = [0]
    table = []
    while len(table) < len(waiting):
        row = []
        for doing, j in rows[waiting[len(table)]]:
            if classes[j] not in numbers:
                numbers[classes[j]] = len(waiting)
                waiting.append(j)
            row.append((doing, numbers[classes[j]]))
        table.append(tuple(row))
    return tuple(table)
