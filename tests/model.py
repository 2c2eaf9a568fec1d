"""A second, plain reading of the document's [4] to [6], to compare the program with on small programs."""

from itertools import permutations, product


def arrows_of(program):
    """A dict of the arrow of each event."""
    return {(name, k): arrow for name, _, arrows in program[0] for k, arrow in enumerate(arrows)}


class State:
    """What a run led to: places, and for each channel a list of the (letter, number) that lie there."""

    def __init__(self, program):
        self.program = program
        self.arrows = arrows_of(program)
        self.forms = {row[0]: row[3] for row in program[1]}
        self.takers = {row[0]: row[2] for row in program[1]}
        self.places = {row[0]: 0 for row in program[0]}
        self.lying = {row[0]: [] for row in program[1]}
        self.letters = []
        self.events = []

    def copy(self):
        other = State(self.program)
        other.places = dict(self.places)
        other.lying = {name: list(letters) for name, letters in self.lying.items()}
        other.letters = [list(row) for row in self.letters]
        other.events = list(self.events)
        return other

    def steps(self):
        """All steps that are possible, ascending."""
        found = []
        for event, (start, doing, _) in self.arrows.items():
            if start != self.places[event[0]]:
                continue
            if doing[0] == 'do':
                found.append((event,))
            elif self.forms[doing[1]] != 'call':
                if doing[0] == 'put' or self.letter_for(doing) is not None:
                    found.append((event,))
            elif doing[0] == 'put':
                for other, (begin, answer, _) in self.arrows.items():
                    if answer == ('take', doing[1], doing[2]) and begin == self.places[other[0]]:
                        found.append((event, other))
        return sorted(found)

    def letter_for(self, doing):
        """The (letter, number) that this take takes, or None."""
        letters = self.lying[doing[1]]
        if self.forms[doing[1]] == 'bag':
            letters = [row for row in letters if row[0] == doing[2]]
        if letters and letters[0][0] == doing[2]:
            return letters[0]
        return None

    def do(self, step):
        """The state after a step."""
        after = self.copy()
        for event in step:
            _, doing, end = self.arrows[event]
            if doing[0] == 'put':
                after.lying[doing[1]].append((doing[2], len(after.letters)))
                after.letters.append([doing[1], doing[2], len(after.events), None])
            elif doing[0] == 'take':
                row = after.letter_for(doing)
                after.lying[doing[1]].remove(row)
                after.letters[row[1]][3] = len(after.events)
            after.places[event[0]] = end
            after.events.append(event)
        return after


def all_states(program, most):
    """The states of all runs of at most so many events, by run."""
    found = {(): State(program)}
    level = [State(program)]
    while level:
        following = []
        for state in level:
            for step in state.steps():
                after = state.do(step)
                if len(after.events) <= most and tuple(after.events) not in found:
                    found[tuple(after.events)] = after
                    following.append(after)
        level = following
    return found


def all_tuples(program, size):
    """All tuples of so many events of the program."""
    return product(sorted(arrows_of(program)), repeat=size)


def rounds(state):
    """For each party, the numbers of the letters of its events, in order."""
    found = {name: [] for name in state.places}
    for k, event in enumerate(state.events):
        for number, row in enumerate(state.letters):
            if k in (row[2], row[3]):
                found[event[0]].append(number)
    return found


def ahead_pairs(state):
    """The pairs (m, n) of letters, m ahead of n."""
    found = set()
    for numbers in rounds(state).values():
        for j, later in enumerate(numbers):
            found |= {(sooner, later) for sooner in numbers[:j] if sooner != later}
    return found


def behind_pairs(state):
    """The pairs (m, n) of letters, m behind n: all that follow by chains of "ahead"."""
    found = {(n, m) for m, n in ahead_pairs(state)}
    while True:
        more = {(a, d) for a, b in found for c, d in found if b == c} - found
        if not more:
            return found
        found |= more


def is_ring(state, ring):
    """Whether a tuple is a ring of the run."""
    pairs = ahead_pairs(state)
    if len(ring) < 2 or len(set(ring)) != len(ring):
        return False
    return all((m, n) in pairs for m, n in zip(ring, ring[1:] + ring[:1]))


def least_ring_size(state):
    """The number of letters of a least ring, None without one."""
    numbers = range(len(state.letters))
    for size in range(2, len(state.letters) + 1):
        if any(is_ring(state, ring) for ring in permutations(numbers, size)):
            return size
    return None


def least_cycle_size(state):
    """The same for many letters: the fewest steps of "ahead" from a letter back to itself."""
    pairs = ahead_pairs(state)
    following = {m: {n for k, n in pairs if k == m} for m in range(len(state.letters))}
    for size in range(2, len(state.letters) + 1):
        for first in following:
            level = {first}
            for _ in range(size):
                level = {n for m in level for n in following[m]}
            if first in level:
                return size
    return None


def random_state(program, random, most):
    """The state of a run of about so many events, or of fewer if nothing is possible any more."""
    state = State(program)
    while len(state.events) < most and state.steps():
        state = state.do(random.choice(state.steps()))
    return state


def is_direct(state):
    """Whether each letter that is taken is taken by the event right after its put."""
    return all(row[3] is None or row[3] == row[2] + 1 for row in state.letters)


def by_party(program, events):
    """The events of each party."""
    return tuple(tuple(event for event in events if event[0] == party[0]) for party in program[0])


def stand_of(state):
    """The stand of the run."""
    heads = []
    for name in [row[0] for row in state.program[1]]:
        letters = [row[0] for row in state.lying[name]]
        heads.append(tuple(sorted(set(letters))) if state.forms[name] == 'bag' else tuple(letters[:1]))
    return (tuple(state.places[row[0]] for row in state.program[0]), tuple(heads))


def random_program(random):
    """A small program with loops, other letter names, bags and calls."""
    names = ['ann', 'bob', 'cid'][:random.choice((2, 2, 3))]
    channels = []
    for k in range(random.randint(1, 3)):
        sender, taker = random.sample(names, 2)
        channels.append(('xyz'[k], sender, taker, random.choice(('queue', 'queue', 'bag', 'call'))))
    parties = []
    for name in names:
        doings = [('do', 'nap')]
        for channel in channels:
            if name in channel[1:3]:
                word = 'put' if name == channel[1] else 'take'
                doings.extend([(word, channel[0], 'a'), (word, channel[0], 'b'), (word, channel[0], 'a')])
        arrows = {}
        for _ in range(random.randint(1, 5)):
            arrows[(random.randint(0, 1), random.choice(doings), random.randint(0, 1))] = True
        parties.append((name, (), tuple(arrows)))
    return (tuple(parties), tuple(channels))
