"""Stands and watched stands of a program, and the moves that lead from one to the next."""

from ascalls.errors import NotUsable
from ascalls.kinds import ascends, is_name, is_number, is_pair_of_tuples, is_row
from ascalls.programparts import letters_on, places_of


def first_stand(program):
    """The stand of the empty run."""
    return (tuple([0 for _ in program[0]]), tuple([() for _ in program[1]]))


def moves_from(program, stand):
    """The set of the pairs of a move of a stand and the stand to which it leads."""
    moves = Moves(program)
    if not moves.is_stand(stand):
        raise NotUsable("stand", -1)
    return tuple(sorted(set(moves.after(stand))))


def watched_from(program, watched):
    """The set of the pairs of a move of a watched stand and a watched stand to which it leads."""
    moves = Moves(program)
    if not moves.is_watched(watched):
        raise NotUsable("watched", -1)
    return tuple(sorted(set(moves.watched_after(watched))))


def is_crossing(program, watched):
    """Whether a watched stand crosses."""
    moves = Moves(program)
    if not moves.is_watched(watched):
        raise NotUsable("watched", -1)
    return moves.crossing_take(watched) is not None


class Moves:
    """The stands of a program and their moves; what the program says is looked up once for all stands."""

    def __init__(self, program):
        self.program = program
        self._names = [party[0] for party in program[0]]
        self._places = [places_of(program, name) for name in self._names]
        self._letters = [letters_on(program, channel[0]) for channel in program[1]]
        self._numbers = {channel[0]: c for c, channel in enumerate(program[1])}
        self._takers = {channel[0]: self._names.index(channel[2]) for channel in program[1]}
        self._doings = {}
        self._starts = {}
        self._takes = {}
        self._known = {}
        for p, (name, _, arrows) in enumerate(program[0]):
            for k, (start, doing, end) in enumerate(arrows):
                self._doings[(name, k)] = doing
                self._starts[(p, start)] = self._starts.get((p, start), ()) + (((name, k), doing, end),)
                if doing[0] == "take":
                    key = (doing[1], doing[2], start)
                    self._takes[key] = self._takes.get(key, ()) + (((name, k), end),)

    def is_stand(self, thing):
        """Whether any value is a stand of the program."""
        if not is_pair_of_tuples(thing):
            return False
        places, heads = thing
        if len(places) != len(self._places) or len(heads) != len(self._letters):
            return False
        if not all([is_number(place) and place in known for place, known in zip(places, self._places)]):
            return False
        return all([self._is_head(c, head) for c, head in enumerate(heads)])

    def is_watched(self, thing):
        """Whether any value is a watched stand of the program."""
        if not is_row(thing, 3) or not self.is_stand(thing[:2]):
            return False
        return thing[2] == () or self._is_watch(thing[1], thing[2])

    def after(self, stand):
        """The list of the pairs of a move of a stand and the stand to which it leads."""
        if stand not in self._known:
            self._known[stand] = self._pairs_after(stand)
        return self._known[stand]

    def watched_after(self, watched):
        """The list of the pairs of a move of a watched stand and a watched stand to which it leads."""
        places, heads, watch = watched
        pairs = []
        for move, (there, later) in self.after((places, heads)):
            pairs.append((move, (there, later, _touched_by(watch, move))))
            # A head changes only if a put alone brings a name into it.
            if watch == () and later != heads:
                pairs.append((move, (there, later, self._watch_of(move))))
        return pairs

    def crossing_take(self, watched):
        """The event that takes the watched letter and closes a ring; None if the watched stand does not cross."""
        places, _, watch = watched
        if watch == ():
            return None
        name, letter, touched = watch
        taker = self._takers[name]
        if self._names[taker] not in touched:
            return None
        takes = self._takes.get((name, letter, places[taker]), ())
        return takes[0][0] if len(takes) > 0 else None

    def _is_head(self, c, thing):
        """Whether any value can be the head of channel c."""
        if not isinstance(thing, tuple) or not all([letter in self._letters[c] for letter in thing]):
            return False
        form = self.program[1][c][3]
        if form == "bag":
            return ascends(thing)
        return len(thing) <= (1 if form == "queue" else 0)

    def _is_watch(self, heads, thing):
        """Whether any value is a letter in one of these heads, with a set of parties that has its sender."""
        if not is_row(thing, 3):
            return False
        name, letter, touched = thing
        if not is_name(name) or name not in self._numbers or letter not in heads[self._numbers[name]]:
            return False
        if not isinstance(touched, tuple) or not all([party in self._names for party in touched]):
            return False
        return ascends(touched) and self.program[1][self._numbers[name]][1] in touched

    def _pairs_after(self, stand):
        """The same as "after", found anew."""
        places, heads = stand
        pairs = []
        for p, place in enumerate(places):
            for event, doing, end in self._starts.get((p, place), ()):
                there = _with_item(places, p, end)
                if doing[0] == "do":
                    pairs.append(((event,), (there, heads)))
                elif doing[0] == "put":
                    pairs.extend(self._pairs_of_put(event, doing, there, heads))
        return pairs

    def _pairs_of_put(self, event, doing, places, heads):
        """The pairs of the moves that begin with this put, which leads its party to these places."""
        _, name, letter = doing
        c = self._numbers[name]
        head = heads[c]
        form = self.program[1][c][3]
        pairs = []
        if form != "call":
            pairs.append(((event,), (places, _with_item(heads, c, _head_with(form, head, letter)))))
        if len(head) == 0 or (form == "bag" and letter not in head):
            taker = self._takers[name]
            for take, end in self._takes.get((name, letter, places[taker]), ()):
                pairs.append(((event, take), (_with_item(places, taker, end), heads)))
        return pairs

    def _watch_of(self, move):
        """What is watched from a put alone on."""
        event = move[0]
        _, name, letter = self._doings[event]
        return (name, letter, (event[0],))


class Search:
    """Finds what moves lead to, in the order of the fewest events, as far as it is led on."""

    def __init__(self, first):
        # What waits: one to be found, the one before it, the move between, and whether its turn has come.
        self._waiting = [(first, None, (), True)]
        self._at = 0
        self._ways = {}

    def next_found(self):
        """One more, with the fewest events of those that are not found yet; None if there is none."""
        while self._at < len(self._waiting):
            found, before, move, is_there = self._waiting[self._at]
            self._at = self._at + 1
            if not is_there:
                self._waiting.append((found, before, move, True))
            elif found not in self._ways:
                self._ways[found] = (before, move)
                return found
        return None

    def lead_on(self, found, pairs):
        """Go on from one that is found, by these pairs of a move and the one to which it leads."""
        for move, later in pairs:
            if later not in self._ways:
                # A move of two events waits twice, so that those of fewer events come first.
                self._waiting.append((later, found, move, len(move) == 1))

    def moves_to(self, found):
        """The tuple of the moves that lead to one that is found."""
        moves = []
        before, move = self._ways[found]
        while before is not None:
            moves.append(move)
            before, move = self._ways[before]
        return tuple(moves[::-1])

    def way_to(self, found):
        """The tuple of the events of the moves that lead to one that is found."""
        return tuple([event for move in self.moves_to(found) for event in move])

    def all_found(self):
        """The list of those that are found, in this order."""
        return list(self._ways)


def _with_item(row, k, thing):
    """The tuple with another element k."""
    return row[:k] + (thing,) + row[k + 1:]


def _head_with(form, head, letter):
    """The head of a queue or a bag after a put of this letter alone."""
    if form == "queue":
        return head if len(head) > 0 else (letter,)
    return tuple(sorted(set(head + (letter,))))


def _touched_by(watch, move):
    """What is watched after a move: an exchange by a party that is touched touches both."""
    if watch == () or len(move) == 1:
        return watch
    name, letter, touched = watch
    pair = (move[0][0], move[1][0])
    if pair[0] not in touched and pair[1] not in touched:
        return watch
    return (name, letter, tuple(sorted(set(touched + pair))))
