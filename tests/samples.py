"""The programs of the document's examples, more programs, and what several tests need."""

import copy

CHANNELS = (('back', 'bob', 'ann', 'queue'), ('out', 'ann', 'bob', 'queue'))
ANN = ('ann', (2,), ((0, ('put', 'out', 'hi'), 1), (1, ('take', 'back', 'ok'), 2)))
ASK = ((ANN, ('bob', (2,), ((0, ('take', 'out', 'hi'), 1), (1, ('put', 'back', 'ok'), 2)))), CHANNELS)
BOTH = ((ANN, ('bob', (2,), ((0, ('put', 'back', 'ok'), 1), (1, ('take', 'out', 'hi'), 2)))), CHANNELS)
A = ('ann', (2,), ((0, ('put', 'x', 'hi'), 1), (1, ('put', 'y', 'hi'), 2)))
B = ('bob', (2,), ((0, ('take', 'z', 'hi'), 1), (1, ('take', 'x', 'hi'), 2)))
C = ('cid', (2,), ((0, ('take', 'y', 'hi'), 1), (1, ('put', 'z', 'hi'), 2)))
ROUND = ((A, B, C), (('x', 'ann', 'bob', 'queue'), ('y', 'ann', 'cid', 'queue'), ('z', 'cid', 'bob', 'queue')))

GIVE = ('ann', (2,), ((0, ('put', 'x', 'hi'), 1), (1, ('put', 'x', 'hi'), 2)))
GET = ('bob', (2,), ((0, ('take', 'x', 'hi'), 1), (1, ('take', 'x', 'hi'), 2)))
TWO = ((GIVE, GET), (('x', 'ann', 'bob', 'queue'),))

DONE = (('ann', 0), ('bob', 0), ('bob', 1), ('ann', 1))
TURN = (('ann', 0), ('ann', 1), ('cid', 0), ('cid', 1), ('bob', 0), ('bob', 1))
LIES = (('ann', 0), ('ann', 1))
MADE = (('ann', 0), ('ann', 1), ('bob', 0))

# Without anything; and parties without ends, without arrows, with places far away.
EMPTY = ((), ())
BARE = ((('a', (), ()), ('abcdefgh', (0, 7), ())), (('q', 'a', 'abcdefgh', 'bag'),))

# Loops, dos, two letter names on one channel, letters that nobody takes, and equal letter names.
MIXED = (
    (
        ('ann', (0,), (
            (0, ('put', 'q', 'a'), 0), (0, ('put', 'q', 'b'), 1), (1, ('do', 'nap'), 0), (1, ('put', 'r', 'a'), 1),
        )),
        ('bob', (0, 3), (
            (0, ('take', 'q', 'b'), 1), (0, ('take', 'q', 'a'), 0), (1, ('take', 'r', 'a'), 0), (1, ('put', 's', 'a'), 0),
        )),
    ),
    (('q', 'ann', 'bob', 'queue'), ('r', 'ann', 'bob', 'queue'), ('s', 'bob', 'ann', 'queue')),
)


def with_forms(program, *forms):
    """The program whose channels have these forms."""
    channels = tuple(row[:3] + (form,) for row, form in zip(program[1], forms, strict=True))
    return (program[0], channels)


MIXED_BAGS = with_forms(MIXED, 'bag', 'bag', 'bag')
MIXED_CALLS = with_forms(MIXED, 'bag', 'call', 'queue')
ASK_CALLED = with_forms(ASK, 'queue', 'call')
BOTH_CALLED = with_forms(BOTH, 'call', 'call')
ROUND_CALLED = with_forms(ROUND, 'call', 'queue', 'bag')
TWO_BAG = with_forms(TWO, 'bag')
TWO_CALLED = with_forms(TWO, 'call')
PROGRAMS = (EMPTY, BARE, ASK, BOTH, ROUND, TWO, MIXED, MIXED_BAGS, MIXED_CALLS, ASK_CALLED, BOTH_CALLED,
            ROUND_CALLED, TWO_BAG, TWO_CALLED)

# Values that are right at no place of a program, an event or a step.
NEVER = (None, True, False, -1, '', 'Hi', 'a b', 'abcdefghi', 'a1', 'a\n', [], [[1]], [None, ('a',)], ('', 0))
# Values of other kinds that may be right somewhere.
SOMETIMES = (0, 1, 7, 10 ** 59, 'hi', 'ann', 'queue', 'put', (), (0,), ('hi',), (0, 1), (1, True), ((),), ((), ()))


def places_in(value):
    """The paths of all values within nested tuples, the whole one first."""
    found = [()]
    if isinstance(value, tuple):
        for k, part in enumerate(value):
            found.extend([(k,) + path for path in places_in(part)])
    return found


def part_at(value, path):
    """The value at a path."""
    for k in path:
        value = value[k]
    return value


def replaced(value, path, thing):
    """The nested tuples with another thing at a path."""
    if path == ():
        return thing
    k = path[0]
    return value[:k] + (replaced(value[k], path[1:], thing),) + value[k + 1:]


def mutants(value, things=NEVER + SOMETIMES):
    """Pairs of a path and a value changed there: by each thing, and by a list for a tuple."""
    for path in places_in(value):
        part = part_at(value, path)
        if isinstance(part, tuple):
            yield path, replaced(value, path, list(part))
        for thing in things:
            yield path, replaced(value, path, thing)


def kinds_in(value):
    """The value with the kind of each part, so that True is not 1 where two of these are compared."""
    if isinstance(value, (tuple, list)):
        return (type(value).__name__, [kinds_in(part) for part in value])
    return (type(value).__name__, value)


def fields(error):
    """The name of an error's class and its fields."""
    return (type(error).__name__, dict(vars(error)))


def outcome(function, *args, **named):
    """What a function returns or raises, with kinds; also checks that it leaves its arguments as they are."""
    before = copy.deepcopy((args, sorted(named.items())))
    try:
        result = ('returns', kinds_in(function(*args, **named)))
    except ValueError as error:
        result = ('raises', fields(error))
    if kinds_in((args, sorted(named.items()))) != kinds_in(before):
        raise AssertionError(f'{function.__name__} changes its arguments')
    return result


def raised(name, **named):
    """The outcome of an error of this class with these fields."""
    return ('raises', (name, named))


def returned(value):
    """The outcome of a result."""
    return ('returns', kinds_in(value))


def paper(word, at):
    """The outcome of InvalidPaper."""
    return raised('InvalidPaper', word=word, at=at)


def unusable(word, at=-1):
    """The outcome of NotUsable."""
    return raised('NotUsable', word=word, at=at)
