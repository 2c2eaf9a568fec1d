"""The letters of a run: which are ahead of which, and the rings that they form."""

from ascalls.errors import NotUsable
from ascalls.programparts import is_index
from ascalls.runs import rows_of_run


def letters_of(program, made):
    """The tuple with the row (channel, letter, put, taken) of each letter of a run."""
    return tuple(rows_of_run(program, made, "made"))


def is_ahead(program, made, m, n):
    """Whether letter m is ahead of letter n."""
    return goes_ahead(spots_of(_rounds_of_two(program, made, m, n)), m, n)


def is_behind(program, made, m, n):
    """Whether letter m is behind letter n."""
    rounds = _rounds_of_two(program, made, m, n)
    return m in letters_behind(rounds, spots_of(rounds), n)


def shortest_ring(program, made):
    """Any ring of a run with the fewest letters; None if it has no ring."""
    return least_ring(rounds_of(program, made, rows_of_run(program, made, "made")))


def is_direct(program, made):
    """Whether a run is a direct run."""
    return are_direct(rows_of_run(program, made, "made"))


def are_direct(rows):
    """Whether each letter of these rows that is taken is taken right after its put."""
    return all([row[3] is None or row[3] == row[2] + 1 for row in rows])


def letters_by_index(rows):
    """A dict of the letter of the event at each index of a run that is a put or a take."""
    letters = {}
    for number, row in enumerate(rows):
        letters[row[2]] = number
        if row[3] is not None:
            letters[row[3]] = number
    return letters


def rounds_of(program, made, rows):
    """For each party a list of the letters of which it does an event, in this order."""
    letters = letters_by_index(rows)
    events = [(event[0], letters[k]) for k, event in enumerate(made) if k in letters]
    return [[letter for name, letter in events if name == party[0]] for party in program[0]]


def spots_of(rounds):
    """A dict of the pairs (round, index) at which each letter stands."""
    spots = {}
    for p, letters in enumerate(rounds):
        for i, letter in enumerate(letters):
            spots[letter] = spots.get(letter, ()) + ((p, i),)
    return spots


def goes_ahead(spots, m, n):
    """Whether letter m, at these spots, is ahead of letter n."""
    return any([p == q and i < j for p, i in spots[m] for q, j in spots[n]])


def letters_behind(rounds, spots, first):
    """A dict of the letters behind this one, each with the letter before it on a shortest way from this one."""
    before = {}
    # In each round all letters from this index on are found already.
    found = [len(letters) for letters in rounds]
    waiting = [first]
    at = 0
    while at < len(waiting):
        letter = waiting[at]
        at = at + 1
        for p, i in spots[letter]:
            for later in rounds[p][i + 1:found[p]]:
                if later not in before:
                    before[later] = letter
                    waiting.append(later)
            if i < found[p]:
                found[p] = i + 1
    return before


def least_ring(rounds):
    """Any ring with the fewest letters, of letters in these rounds; None if there is none."""
    spots = spots_of(rounds)
    least = None
    for letter in spots:
        before = letters_behind(rounds, spots, letter)
        if letter in before:
            ring = _way_round(before, letter)
            if least is None or len(ring) < len(least):
                least = ring
    return least


def _way_round(before, letter):
    """The ring from a letter back to itself."""
    way = [letter]
    while before[way[-1]] != letter:
        way.append(before[way[-1]])
    return tuple(way[::-1])


def _rounds_of_two(program, made, m, n):
    """The rounds of a run with letters m and n."""
    rows = rows_of_run(program, made, "made")
    if not is_index(m, rows):
        raise NotUsable("m", -1)
    if not is_index(n, rows):
        raise NotUsable("n", -1)
    return rounds_of(program, made, rows)
