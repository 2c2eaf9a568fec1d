"""Watch events and logs read from text."""

from ascalls.errors import InvalidText
from ascalls.kinds import FORMS, GUARDS
from ascalls.programreadings import arrow_kinds, arrow_read, check_words, lines_read

def read_event(text):
    """The watch event that a string writes; InvalidText otherwise."""
    return _event_read(text, 0)


def read_log(lines):
    """The log that a list of strings writes; InvalidText otherwise."""
    if len(lines) == 0:
        raise InvalidText(0, 0)
    words = lines[0].split(" ")
    check_words(words, (("watch",), GUARDS, "number"), 0, 0)
    end = int(words[2]) + 1
    program = lines_read(lines[1:end], 1)
    if len(lines) < end:
        raise InvalidText(len(lines), 0)
    events = [_event_read(lines[k], k) for k in range(end, len(lines))]
    return (("watch", program, words[1]),) + tuple(events)


def _event_read(text, line):
    """The watch event that the line with this index writes."""
    words = text.split(" ")
    check_words(words, _kinds_of(words), line, 0)
    if words[0] == "arrow":
        return ("arrow", words[1], arrow_read(words))
    if words[0] == "did":
        return ("did", tuple([(words[k], int(words[k + 1])) for k in range(1, len(words), 2)]))
    return tuple(words)


def _kinds_of(words):
    """The kinds of the words of the line of a watch event, as its first words tell them."""
    if words[0] == "did":
        one = (("did",), "name", "number")
        return one + ("name", "number") if len(words) > len(one) else one
    if words[0] == "form":
        return (("form",), "name", FORMS)
    if words[0] == "guard":
        return (("guard",), GUARDS)
    if words[0] == "arrow":
        return arrow_kinds(words, "name")
    # No other line has another first word than this one.
    return (("mark",), "name")
