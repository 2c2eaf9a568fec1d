"""Doings and programs read from text."""

from ascalls.errors import InvalidText
from ascalls.kinds import FORMS, ascends, is_name

DIGITS = "0123456789"
MOST_DIGITS = 60


def doing_read(text, *, line=0, field=0):
    """The doing that a string writes; InvalidText, with this line and from this field on, otherwise."""
    words = text.split(" ")
    check_words(words, doing_kinds(words), line, field)
    return tuple(words)


def program_read(text):
    """The pair of the tuples of parties and of channels that a string writes; InvalidText otherwise."""
    return lines_read([] if text == "" else text.split("\n"), 0)


def lines_read(lines, first):
    """The same for a list of lines, of which the first one has this index in the whole text."""
    parties = []
    channels = []
    for at, line in enumerate(lines):
        words = line.split(" ")
        check_words(words, _line_kinds(words, parties), first + at, 0)
        if words[0] == "channel":
            channels.append(tuple(words[1:]))
        elif words[0] == "party":
            parties.append((words[1], ends_read(words[2]), ()))
        else:
            name, ends, arrows = parties[-1]
            parties[-1] = (name, ends, arrows + (arrow_read(words),))
    return (tuple(parties), tuple(channels))


def check_words(words, kinds, line, field):
    """InvalidText for the first word of a line that is not of its kind, is missing or is one too many."""
    for k, word in enumerate(words):
        if k >= len(kinds) or not _is_of_kind(word, kinds[k]):
            raise InvalidText(line, field + k)
    if len(words) < len(kinds):
        raise InvalidText(line, field + len(words))


def doing_kinds(words):
    """The kinds of the words of a doing, as its first word tells them."""
    if len(words) > 0 and words[0] == "do":
        return (("do",), "name")
    return (("put", "take"), "name", "name")


def arrow_kinds(words, party):
    """The kinds of the words of the line of an arrow, with this kind for its party."""
    return (("arrow",), party, "number") + doing_kinds(words[3:]) + ("number",)


def arrow_read(words):
    """The arrow that the words of a line write, where each of them is of its kind."""
    return (int(words[2]), tuple(words[3:-1]), int(words[-1]))


def is_number_word(word):
    """Whether a word is a number of at most sixty digits, without a leading zero."""
    if not 1 <= len(word) <= MOST_DIGITS or not all([sign in DIGITS for sign in word]):
        return False
    return word == "0" or word[0] != "0"


def ends_read(word):
    """The set of numbers that a word writes; None if it writes none."""
    if word == "-":
        return ()
    parts = word.split(",")
    if not all([is_number_word(part) for part in parts]):
        return None
    ends = tuple([int(part) for part in parts])
    return ends if ascends(ends) else None


def _line_kinds(words, parties):
    """The kinds of the words of a line after the lines of these parties."""
    if words[0] == "party":
        return (("party",), "name", "ends")
    # No channel may stand behind the line of a party, and no arrow before the first of them.
    if len(parties) > 0:
        return arrow_kinds(words, (parties[-1][0],))
    return (("channel",), "name", "name", "name", FORMS)


def _is_of_kind(word, kind):
    """Whether a word is of a kind: a tuple of the possible words, "name", "number" or "ends"."""
    if isinstance(kind, tuple):
        return word in kind
    if kind == "name":
        return is_name(word)
    if kind == "number":
        return is_number_word(word)
    return ends_read(word) is not None
