"""A second, plain reading of the document's [18], [72] and [73]: lines by the patterns of their words."""

import re

NAME = '[a-z]{1,8}'
NUMBER = '(?:0|[1-9][0-9]{0,59})'
FORM = '(?:queue|bag|call)'
GUARD = '(?:on|off)'
DOINGS = (['(?:put|take)', NAME, NAME], ['do', NAME])
EVENT_LINES = [['did', NAME, NUMBER], ['did', NAME, NUMBER, NAME, NUMBER], ['form', NAME, FORM], ['guard', GUARD], ['mark', NAME]]
EVENT_LINES += [['arrow', NAME, NUMBER, *doing, NUMBER] for doing in DOINGS]
WORDS = ('did', 'form', 'guard', 'arrow', 'mark', 'put', 'take', 'do', 'ann', 'bob', 'x', 'abcdefgh', 'abcdefghi', '0', '1', '17', '9' * 60,
         '9' * 61, '00', '01', '-1', '-', '', 'queue', 'bag', 'call', 'on', 'off', 'On', 'a\n', '\n', '0\n', '1,2', 'party', 'channel', 'watch')


def wrong_field(line, patterns):
    """None if one of these patterns fits a line, else the field at which it is not possible any more."""
    words = line.split(' ')
    counts = []
    for pattern in patterns:
        fits = [re.fullmatch(part, word) is not None for part, word in zip(pattern, words)]
        if all(fits) and len(pattern) == len(words):
            return None
        counts.append((fits + [False]).index(False))
    return max(counts)


def event_of(line):
    """The watch event that a line writes, or the field at which it is not possible."""
    field = wrong_field(line, EVENT_LINES)
    if field is not None:
        return field
    word, *words = line.split(' ')
    if word == 'did':
        return ('did', tuple((words[k], int(words[k + 1])) for k in range(0, len(words), 2)))
    if word == 'arrow':
        return ('arrow', words[0], (int(words[1]), tuple(words[2:-1]), int(words[-1])))
    return (word, *words)


def program_patterns(lines):
    """The patterns of a line of a program after these lines of it."""
    party = [line.split(' ')[1] for line in lines if line.startswith('party ')]
    patterns = [['party', NAME, ends_pattern()]]
    if not party:
        return patterns + [['channel', NAME, NAME, NAME, FORM]]
    return patterns + [['arrow', party[-1], NUMBER, *doing, NUMBER] for doing in DOINGS]


def ends_pattern():
    """The pattern of the ends, but for their order, which the tests keep."""
    return f'(?:-|{NUMBER}(?:,{NUMBER})*)'


def log_verdict(lines):
    """None if these lines write a log, else the line and the field."""
    if not lines:
        return (0, 0)
    field = wrong_field(lines[0], [['watch', GUARD, NUMBER]])
    if field is not None:
        return (0, field)
    end = int(lines[0].split(' ')[2]) + 1
    for k, line in enumerate(lines):
        if k > 0:
            field = wrong_field(line, program_patterns(lines[1:k]) if k < end else EVENT_LINES)
            if field is not None:
                return (k, field)
    return (len(lines), 0) if len(lines) < end else None


def random_line(random):
    """The line of a watch event, or something near one."""
    pattern = random.choice(EVENT_LINES)
    words = []
    for part in pattern:
        fitting = [word for word in WORDS if re.fullmatch(part, word)]
        words.append(random.choice(fitting))
    for _ in range(random.choice((0, 0, 1, 1, 2))):
        k = random.randint(0, len(words))
        words[k:k + random.randint(0, 1)] = [random.choice(WORDS)] * random.randint(0, 1)
    return ' '.join(words)
