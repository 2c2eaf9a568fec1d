"""A second, plain reading of the document's [61] to [68], to compare the program with."""

from tests import model

FORMS = ('queue', 'bag', 'call')


def is_name(thing):
    """Whether any value is a name."""
    return type(thing) is str and 1 <= len(thing) <= 8 and all('a' <= sign <= 'z' for sign in thing)


def is_number(thing):
    """Whether any value is a number."""
    return type(thing) is int and thing >= 0


def is_doing(thing):
    """Whether any value is a doing."""
    match thing:
        case ('do', word):
            return type(thing) is tuple and is_name(word)
        case ('put' | 'take', channel, letter):
            return type(thing) is tuple and is_name(channel) and is_name(letter)
    return False


def by_form(thing):
    """Whether any value is a watch event by form."""
    if type(thing) is not tuple:
        return False
    match thing:
        case ('did', step):
            pairs = type(step) is tuple and len(step) in (1, 2) and all(type(pair) is tuple and len(pair) == 2 for pair in step)
            return pairs and all(is_name(name) and is_number(k) for name, k in step)
        case ('form', channel, form):
            return is_name(channel) and type(form) is str and form in FORMS
        case ('guard', word):
            return type(word) is str and word in ('on', 'off')
        case ('arrow', party, arrow):
            if not is_name(party) or type(arrow) is not tuple or len(arrow) != 3:
                return False
            return is_number(arrow[0]) and is_doing(arrow[1]) and is_number(arrow[2])
        case ('mark', name):
            return is_name(name)
    return False


class Follower:
    """What the document says of a watch after some watch events, worked out from the whole run each time."""

    def __init__(self, program, guard='off', most=40):
        self.ends = {row[0]: row[1] for row in program[0]}
        self.arrows = {row[0]: list(row[2]) for row in program[0]}
        self.channels = {row[0]: list(row[1:]) for row in program[1]}
        self.places = {row[0]: 0 for row in program[0]}
        self.guard = guard
        self.letters = []
        # For each put and take of the run: its party and the number of the letter.
        self.trace = []
        self.taken = set()
        self.marks = {}
        self.count = 0
        self.most = most

    def program(self):
        """The program as it is now."""
        parties = tuple((name, self.ends[name], tuple(self.arrows[name])) for name in self.arrows)
        return (parties, tuple((name, *row) for name, row in self.channels.items()))

    def ahead(self):
        """The pairs of letters of which the first one is ahead of the second one."""
        pairs = set()
        for i, (name, m) in enumerate(self.trace):
            pairs |= {(m, n) for party, n in self.trace[i + 1:] if party == name and m != n}
        return pairs

    def behind(self):
        """For each letter the set of those that are behind it."""
        pairs = self.ahead()
        found = {}
        for m in range(len(self.letters)):
            after = {n for k, n in pairs if k == m}
            waiting = list(after)
            while waiting:
                last = waiting.pop()
                more = {n for k, n in pairs if k == last} - after
                after |= more
                waiting.extend(more)
            found[m] = after
        return found

    def lying(self):
        """The rows of the letters that lie."""
        behind = self.behind()
        rows = []
        for m, (channel, letter) in enumerate(self.letters):
            if m not in self.taken:
                touched = sorted({party for party, n in self.trace if n == m or n in behind[m]})
                rows.append((m, channel, letter, tuple(touched), tuple(sorted(behind[m] - self.taken))))
        return tuple(rows)

    def has_ring(self):
        """Whether the run so far has a ring."""
        return any(m in after for m, after in self.behind().items())

    def letter_for(self, doing):
        """The number of the letter that a take takes, None without one."""
        lying = [m for m, row in enumerate(self.letters) if row[0] == doing[1] and m not in self.taken]
        if self.channels[doing[1]][2] == 'bag':
            lying = [m for m in lying if self.letters[m][1] == doing[2]]
        return lying[0] if lying and self.letters[lying[0]][1] == doing[2] else None

    def closes(self, name, doing):
        """Whether a take closes a ring."""
        after = self.behind()[self.letter_for(doing)]
        return any(party == name and n in after for party, n in self.trace)

    def reason(self, event):
        """The first reason why any value is not possible as a watch event."""
        if not by_form(event):
            return 'shape'
        if self.count >= self.most:
            return 'full'
        if event[0] == 'did':
            return next((reason for k in range(len(event[1])) if (reason := self.reason_of_event(event[1], k))), None)
        if event[0] == 'guard':
            return 'same' if event[1] == self.guard else None
        if event[0] == 'mark':
            return 'twice' if event[1] in self.marks else None
        if event[0] == 'form':
            if event[1] not in self.channels:
                return 'channel'
            if any(row[0] == event[1] and m not in self.taken for m, row in enumerate(self.letters)):
                return 'busy'
            return 'same' if self.channels[event[1]][2] == event[2] else None
        if event[1] not in self.arrows:
            return 'party'
        doing = event[2][1]
        if doing[0] != 'do' and (doing[1] not in self.channels or self.channels[doing[1]][('put', 'take').index(doing[0])] != event[1]):
            return 'channel'
        return 'twice' if event[2] in self.arrows[event[1]] else None

    def reason_of_event(self, step, k):
        """The first reason against event k of a step."""
        name, number = step[k]
        if name not in self.arrows:
            return 'party'
        if number >= len(self.arrows[name]):
            return 'arrow'
        start, doing, _ = self.arrows[name][number]
        if start != self.places[name]:
            return 'place'
        called = doing[0] != 'do' and self.channels[doing[1]][2] == 'call'
        if len(step) == 2:
            if k == 0:
                return None if doing[0] == 'put' and called else 'channel'
            put = self.arrows[step[0][0]][step[0][1]][1]
            return None if doing == ('take', put[1], put[2]) else 'channel'
        if called or (doing[0] == 'take' and self.letter_for(doing) is None):
            return 'channel'
        if self.guard == 'on' and doing[0] == 'take' and self.closes(name, doing):
            return 'cross'
        return None

    def apply(self, event):
        """The answer to a watch event that is possible, which is done."""
        answer = None
        self.count += 1
        if event[0] == 'did':
            for name, k in event[1]:
                _, doing, self.places[name] = self.arrows[name][k]
                if doing[0] == 'put':
                    answer = len(self.letters)
                    self.letters.append(doing[1:])
                if doing[0] == 'take':
                    answer = self.letter_for(doing)
                    self.taken.add(answer)
                if doing[0] != 'do':
                    self.trace.append((name, answer))
        elif event[0] == 'form':
            self.channels[event[1]][2] = event[2]
        elif event[0] == 'guard':
            self.guard = event[1]
        elif event[0] == 'arrow':
            self.arrows[event[1]].append(event[2])
        else:
            self.marks[event[1]] = len(self.letters)
        return answer

    def all_steps(self):
        """All tuples of one event or of two that can be steps."""
        events = [(name, k) for name in self.arrows for k in range(len(self.arrows[name]))]
        return [(event,) for event in events] + [(event, other) for event in events for other in events]

    def steps(self):
        """The steps that are possible."""
        count, self.count = self.count, 0
        found = tuple(sorted(step for step in self.all_steps() if self.reason(('did', step)) is None))
        self.count = count
        return found

    def crossings(self):
        """The takes that close a ring."""
        guard, count, self.guard, self.count = self.guard, self.count, 'off', 0
        steps = [step for step in self.all_steps() if len(step) == 1 and self.reason(('did', step)) is None]
        self.guard, self.count = guard, count
        doings = {step[0]: self.arrows[step[0][0]][step[0][1]][1] for step in steps}
        return tuple(sorted(event for event, doing in doings.items() if doing[0] == 'take' and self.closes(event[0], doing)))

    def table(self):
        """The strings of the letters that lie."""
        rows = []
        for number, channel, letter, touched, behind in self.lying():
            after = ','.join(map(str, behind)) or '-'
            rows.append(' '.join([str(number).rjust(3), channel.ljust(8), letter.ljust(8), ','.join(touched), after]))
        return rows

    def since(self, name):
        """The numbers of the letters put after a mark, and whether no letter from before it lies."""
        numbers = range(len(self.letters))
        return (tuple(numbers[self.marks[name]:]), not any(m not in self.taken for m in numbers[:self.marks[name]]))


def followed(program, guard, events):
    """The Follower after these watch events, all of which are possible."""
    follower = Follower(program, guard)
    for event in events:
        if follower.reason(event) is not None:
            raise AssertionError((event, follower.reason(event)))
        follower.apply(event)
    return follower


def random_event(random, follower):
    """A watch event; many of them are possible."""
    steps = follower.steps()
    parties, channels = list(follower.arrows) + ['zed'], list(follower.channels) + ['zed']
    kind = random.choice(('did',) * 12 + ('form', 'form', 'guard', 'arrow', 'arrow', 'mark', 'wild'))
    if kind == 'did' and follower.crossings() and random.random() < 0.5:
        return ('did', (random.choice(follower.crossings()),))
    if kind == 'did' and steps:
        return ('did', random.choice(steps))
    if kind == 'form':
        return ('form', random.choice(channels), random.choice(FORMS))
    if kind == 'guard':
        return ('guard', random.choice(('on', 'off', 'off')))
    if kind == 'mark':
        return ('mark', random.choice('abcdefgh'))
    if kind == 'arrow':
        doing = random.choice([('do', 'hop')] + [(word, name, letter) for word in ('put', 'take') for name in channels for letter in 'ab'])
        return ('arrow', random.choice(parties), (random.randint(0, 2), doing, random.randint(0, 2)))
    return ('did', tuple((random.choice(parties), random.randint(0, 5)) for _ in range(random.choice((1, 1, 2)))))


def run_of(events):
    """The events of the run that these watch events make."""
    return tuple(event for word, *rest in events if word == 'did' for event in rest[0])


def is_ring(follower, ring):
    """Whether a tuple is a ring of the run so far."""
    pairs = follower.ahead()
    if not isinstance(ring, tuple) or len(ring) < 2 or len(set(ring)) != len(ring):
        return False
    return all(pair in pairs for pair in zip(ring, ring[1:] + ring[:1]))


def random_programs(random, many):
    """Small programs with loops."""
    return [model.random_program(random) for _ in range(many)]
