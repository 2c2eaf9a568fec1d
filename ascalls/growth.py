"""How many letters can lie at once in a program that is as calls, and papers that state it."""

from ascalls.errors import NotUsable
from ascalls.judging import check_calls
from ascalls.programparts import find_channel
from ascalls.standing import graph_of
from ascalls.stands import Search, first_stand


def most_lying(program, *, only=None):
    """The greatest number of letters that count and lie after a run; None if there is no greatest one."""
    paper = growth_paper(program, only=only)
    return paper[1] if paper[0] == "most" else None


def growth_paper(program, *, only=None):
    """Any growth paper of a program."""
    growing = growing_moves(program, only)
    check_calls(program)
    graph = graph_of(program)
    groups = _groups_of(graph, first_stand(program))
    round_trip = _round_trip(graph, groups, growing)
    if len(round_trip) > 0:
        stand, moves = round_trip
        run = _search_for(graph, first_stand(program), stand).way_to(stand)
        return ("endless", run, moves)
    heights = _heights_of(graph, groups, growing)
    highest = _highest_of(heights)
    # On these ways alone each stand is reached with as many letters as its height tells.
    steep = {stand: _steep_pairs(graph[stand], heights, heights[stand], growing) for stand in graph}
    run = _search_for(steep, first_stand(program), highest).way_to(highest)
    return ("most", heights[highest], tuple([(stand, heights[stand]) for stand in heights]), run)


def counting_names(program, only):
    """The tuple of the names of the channels whose letters count; NotUsable if this cannot be "only"."""
    if only is None:
        return tuple([channel[0] for channel in program[1] if channel[3] != "call"])
    channel = find_channel(program, only)
    if channel is None or channel[3] == "call":
        raise NotUsable("only", -1)
    return (only,)


def growing_moves(program, only):
    """A dict of True for each move that grows, wherever it is possible; NotUsable if this cannot be "only"."""
    names = counting_names(program, only)
    growing = {}
    for party, _, arrows in program[0]:
        for k, arrow in enumerate(arrows):
            doing = arrow[1]
            if doing[0] == "put" and doing[1] in names:
                growing[((party, k),)] = True
    return growing


def _groups_of(graph, first):
    """A dict of the group of each stand, by groups: those of one lead to one another, and to later groups only."""
    before = {stand: [] for stand in graph}
    for stand in graph:
        for _, later in graph[stand]:
            before[later].append(stand)
    groups = {}
    for stand in _order_of_ends(graph, first)[::-1]:
        if stand not in groups:
            number = len(groups)
            groups[stand] = number
            waiting = [stand]
            while len(waiting) > 0:
                last = waiting.pop()
                for sooner in before[last]:
                    if sooner not in groups:
                        groups[sooner] = number
                        waiting.append(sooner)
    return groups


def _order_of_ends(graph, first):
    """The list of all stands, in the order in which a walk into the depth is done with them."""
    order = []
    begun = {first: True}
    way = [(first, 0)]
    while len(way) > 0:
        stand, k = way.pop()
        if k == len(graph[stand]):
            order.append(stand)
        else:
            way.append((stand, k + 1))
            later = graph[stand][k][1]
            if later not in begun:
                begun[later] = True
                way.append((later, 0))
    return order


def _round_trip(graph, groups, growing):
    """A stand, and moves that lead from it back to it and begin with one that grows; () if there are none."""
    for stand in graph:
        for move, later in graph[stand]:
            if move in growing and groups[later] == groups[stand]:
                back = _search_for(graph, later, stand).moves_to(stand)
                return (stand, (move,) + back)
    return ()


def _search_for(graph, first, last):
    """The search that began at one stand and has found another one, which the first one leads to."""
    search = Search(first)
    found = search.next_found()
    while found != last:
        search.lead_on(found, graph[found])
        found = search.next_found()
    return search


def _heights_of(graph, groups, growing):
    """A dict of the most letters that lie at each stand, where no way from a stand back to it grows."""
    # Between the stands of one group no move grows, so all of them have the height of their group.
    levels = {groups[stand]: 0 for stand in groups}
    for stand in groups:
        level = levels[groups[stand]]
        for move, later in graph[stand]:
            height = level + 1 if move in growing else level
            if height > levels[groups[later]]:
                levels[groups[later]] = height
    return {stand: levels[groups[stand]] for stand in groups}


def _highest_of(heights):
    """A stand with the greatest height."""
    found = list(heights)[0]
    for stand in heights:
        if heights[stand] > heights[found]:
            found = stand
    return found


def _steep_pairs(pairs, heights, height, growing):
    """Those of the moves of a stand of this height after which just as many letters lie as that stand's height."""
    steep = []
    for move, later in pairs:
        if heights[later] == (height + 1 if move in growing else height):
            steep.append((move, later))
    return steep
