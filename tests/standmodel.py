"""A second, plain reading of the document's [6] to [8], to compare the program with on small programs."""

from itertools import combinations, product

from tests import model
from tests.samples import kinds_in


def subsets(things):
    """All sets of these things, as ascending tuples."""
    ordered = sorted(set(things))
    return [part for size in range(len(ordered) + 1) for part in combinations(ordered, size)]


def places_of(party):
    """The places of a party."""
    return sorted({0, *party[1], *(arrow[0] for arrow in party[2]), *(arrow[2] for arrow in party[2])})


def heads_of(program, channel):
    """All heads that this channel may have at a stand of the program."""
    doings = [arrow[1] for arrow in model.arrows_of(program).values()]
    sets = subsets(doing[2] for doing in doings if doing[:2] == ('put', channel[0]))
    most = {'queue': 1, 'bag': len(sets), 'call': 0}[channel[3]]
    return [part for part in sets if len(part) <= most]


def all_stands(program):
    """All stands of a program."""
    places = product(*[places_of(party) for party in program[0]])
    heads = list(product(*[heads_of(program, channel) for channel in program[1]]))
    return [(where, what) for where in places for what in heads]


def all_watched(program):
    """All watched stands of a program."""
    found = []
    names = [party[0] for party in program[0]]
    for places, heads in all_stands(program):
        found.append((places, heads, ()))
        for channel, head in zip(program[1], heads):
            for letter in head:
                touched = [part for part in subsets(names) if channel[1] in part]
                found.extend((places, heads, (channel[0], letter, part)) for part in touched)
    return found


def first(program):
    """The first stand."""
    return (tuple(0 for _ in program[0]), tuple(() for _ in program[1]))


def moves(program, stand):
    """A dict of the stand to which each move of a stand leads."""
    places = {party[0]: place for party, place in zip(program[0], stand[0])}
    heads = {channel[0]: head for channel, head in zip(program[1], stand[1])}
    forms = {channel[0]: channel[3] for channel in program[1]}
    ready = {event: arrow for event, arrow in model.arrows_of(program).items() if arrow[0] == places[event[0]]}
    found = {}
    for event, (_, doing, end) in ready.items():
        if doing[0] == 'do':
            found[(event,)] = led_to(program, places, heads, {event[0]: end}, {})
        if doing[0] == 'put' and forms[doing[1]] != 'call':
            head = heads[doing[1]]
            if forms[doing[1]] == 'bag' or head == ():
                head = tuple(sorted({*head, doing[2]}))
            found[(event,)] = led_to(program, places, heads, {event[0]: end}, {doing[1]: head})
        for other, (_, answer, there) in ready.items():
            if doing[0] == 'put' and answer == ('take', *doing[1:]) and is_open(forms[doing[1]], heads[doing[1]], doing[2]):
                found[(event, other)] = led_to(program, places, heads, {event[0]: end, other[0]: there}, {})
    return found


def is_open(form, head, letter):
    """Whether a letter can be exchanged."""
    return form == 'call' or (form == 'queue' and head == ()) or (form == 'bag' and letter not in head)


def led_to(program, places, heads, moved, put):
    """The stand with other places of some parties and other heads of some channels."""
    where = {**places, **moved}
    what = {**heads, **put}
    return (tuple(where[party[0]] for party in program[0]), tuple(what[channel[0]] for channel in program[1]))


def watched_moves(program, watched):
    """The set of the pairs of a move of a watched stand and a watched stand to which it leads."""
    places, heads, watch = watched
    arrows = model.arrows_of(program)
    found = set()
    for move, (there, later) in moves(program, (places, heads)).items():
        if watch == ():
            found.add((move, (there, later, ())))
            if len(move) == 1 and later != heads:
                found.add((move, (there, later, (*arrows[move[0]][1][1:], (move[0][0],)))))
        else:
            parties = {event[0] for event in move}
            touched = set(watch[2])
            if len(move) == 2 and touched & parties:
                touched |= parties
            found.add((move, (there, later, (*watch[:2], tuple(sorted(touched))))))
    return found


def crosses(program, watched):
    """Whether a watched stand crosses."""
    if watched[2] == ():
        return False
    name, letter, touched = watched[2]
    taker = {channel[0]: channel[2] for channel in program[1]}[name]
    place = {party[0]: place for party, place in zip(program[0], watched[0])}[taker]
    arrows = {event: arrow for event, arrow in model.arrows_of(program).items() if event[0] == taker}
    return taker in touched and any(arrow[:2] == (place, ('take', name, letter)) for arrow in arrows.values())


def costs(start, following):
    """The fewest events of moves from the start to each thing that can come; following gives pairs (move, thing)."""
    found = {start: 0}
    changed = True
    while changed:
        changed = False
        for thing in list(found):
            for move, later in following(thing):
                cost = found[thing] + len(move)
                if found.get(later, cost + 1) > cost:
                    found[later] = cost
                    changed = True
    return found


def stand_costs(program):
    """The fewest events to each stand that can come."""
    return costs(first(program), lambda stand: moves(program, stand).items())


def watched_costs(program):
    """The fewest events to each watched stand that can come."""
    return costs((*first(program), ()), lambda watched: watched_moves(program, watched))


def fewest_to_cross(program):
    """The fewest events of moves to a watched stand that crosses, None without one."""
    return min([cost for watched, cost in watched_costs(program).items() if crosses(program, watched)], default=None)


def ring_sets(program):
    """All ring sets, least or not."""
    crossings = [watched for watched in watched_costs(program) if crosses(program, watched)]
    return {tuple(row[0] for row, head in zip(program[1], watched[1]) if head) for watched in crossings}


def verdict(program, thing):
    """What a checker of call papers has to say: True, False, or the word and the place of its refusal."""
    if isinstance(thing, tuple) and len(thing) == 2 and thing[0] == 'table' and isinstance(thing[1], tuple):
        return table_verdict(program, thing[1])
    if isinstance(thing, tuple) and len(thing) == 3 and thing[0] == 'ring':
        return ring_verdict(program, thing[1], thing[2])
    return ('shape', -1)


def table_verdict(program, stands):
    """The same for the watched stands of a table."""
    known = {repr(kinds_in(watched)) for watched in all_watched(program)}
    told = [repr(kinds_in(thing)) for thing in stands]
    for k, text in enumerate(told):
        if text not in known or text in told[:k]:
            return ('stand', k)
    if (*first(program), ()) not in stands:
        return ('first', -1)
    for k, watched in enumerate(stands):
        if any(later not in stands for _, later in watched_moves(program, watched)):
            return ('move', k)
        if crosses(program, watched):
            return ('cross', k)
    return True


def ring_verdict(program, made, ring):
    """The same for a run and a ring."""
    try:
        state = state_after(program, made)
    except ValueError as error:
        return error.args
    if not isinstance(ring, tuple) or len(ring) < 2:
        return ('ring', -1)
    numbers = {repr(kinds_in(k)) for k in range(len(state.letters))}
    told = [repr(kinds_in(thing)) for thing in ring]
    if not set(told) <= numbers or len(set(told)) < len(told):
        return ('ring', -1)
    pairs = model.ahead_pairs(state)
    for k, pair in enumerate(zip(ring, ring[1:] + ring[:1])):
        if pair not in pairs:
            return ('ahead', k)
    return False


def state_after(program, made):
    """The state of a run; ValueError with the word and the place if it is none."""
    if not isinstance(made, tuple):
        raise ValueError('shape', -1)
    state = model.State(program)
    while len(state.events) < len(made):
        k = len(state.events)
        steps = [step for step in state.steps() if kinds_in(step) == kinds_in(made[k:k + len(step)])]
        if steps:
            state = state.do(steps[0])
            continue
        known = {repr(kinds_in(event)): arrow for event, arrow in state.arrows.items()}
        arrow = known.get(repr(kinds_in(made[k])))
        if arrow is None:
            raise ValueError('event', k)
        raise ValueError('place' if arrow[0] != state.places[made[k][0]] else 'channel', k)
    return state


def has_ring(state):
    """Whether a run has a ring."""
    return any(m == n for m, n in model.behind_pairs(state))


def finite_program(random, most=3):
    """A small program in which no party comes back to a place, so that its runs are few."""
    names = ['ann', 'bob', 'cid'][:random.choice((2, 2, 3))]
    forms = random.choice((('queue',), ('bag',), ('queue', 'bag', 'call')))
    many = random.randint(1, 3) if most == 3 else most
    channels = [('stuvwxyz'[k], *random.sample(names, 2), random.choice(forms)) for k in range(many)]
    letters = random.choice(('a', 'ab'))
    parties = []
    for name in names:
        doings = [('do', 'nap')]
        for channel in channels:
            if name in channel[1:3]:
                word = 'put' if name == channel[1] else 'take'
                doings += [(word, channel[0], letter) for letter in letters] * 2
        last = random.randint(1, 4 if len(names) == 2 else 3)
        arrows = {(place, random.choice(doings), place + 1): True for place in range(last)}
        for _ in range(random.randint(0, 2)):
            place = random.randrange(last)
            arrows[(place, random.choice(doings), random.randint(place + 1, last))] = True
        ends = tuple(sorted(random.sample(range(last + 1), random.randint(0, 2))))
        parties.append((name, ends, tuple(arrows)))
    return (tuple(parties), tuple(channels))


def finite_programs(random, many, most=3):
    """So many of these programs, with so many channels, half of them with a ring in some run."""
    found = {True: [], False: []}
    while min(len(rows) for rows in found.values()) < many // 2:
        program = finite_program(random, most)
        found[fewest_to_cross(program) is None].append(program)
    return tuple(found[True][:many // 2] + found[False][:many // 2])


def wide_program(random):
    """A small program with loops over up to four places."""
    channels = [('xyz'[k], *random.sample(('ann', 'bob'), 2), random.choice(('queue', 'bag', 'call'))) for k in range(random.randint(1, 2))]
    parties = []
    for name in ('ann', 'bob'):
        doings = [('do', 'nap'), ('do', 'x')]
        for channel in channels:
            word = 'put' if name == channel[1] else 'take'
            doings += [(word, channel[0], 'a'), (word, channel[0], 'b')] * 2
        places = random.randint(2, 4)
        arrows = {(k, random.choice(doings), (k + 1) % places): True for k in range(places)}
        for _ in range(random.randint(0, 3)):
            arrows[(random.randrange(places), random.choice(doings), random.randrange(places))] = True
        parties.append((name, (), tuple(arrows)))
    return (tuple(parties), tuple(channels))
