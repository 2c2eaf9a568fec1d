"""A desk: a watch that is led and asked by rows of text."""

from ascalls.errors import InvalidRow, InvalidText
from ascalls.eventreadings import read_event, read_log
from ascalls.eventtexts import event_line
from ascalls.kinds import is_name
from ascalls.programtexts import program_text
from ascalls.watches import Watch


class Desk:
    """A watch, at first none, that is told and asked by strings."""

    def __init__(self):
        self._watch = None
        self._started = 0
        self._finished = 0

    def say(self, row):
        """The answer to a row."""
        self._started = self._started + 1
        finished = self._finished + 1
        try:
            return self._answer_to(row)
        finally:
            self._finished = finished

    def tally(self):
        """The numbers of started and of finished calls of say."""
        return (self._started, self._finished)

    def _answer_to(self, row):
        """The answer to a row, without counting it."""
        log = _log_in(row)
        if log is not None:
            _, program, guard = log[0]
            self._watch = Watch(program, guard=guard)
            return "ok"
        if self._watch is None:
            raise InvalidRow(row)
        event = _event_in(row)
        if event is not None:
            return _text_or_none(self._watch.go(event))
        if row in ANSWERS:
            answer = ANSWERS[row]
            return answer(self._watch)
        word, _, rest = row.partition(" ")
        if word == "bars":
            return self._bars(row, rest)
        if word not in ANSWERS_OF_NAMES or not is_name(rest):
            raise InvalidRow(row)
        answer = ANSWERS_OF_NAMES[word]
        return answer(self._watch, rest)

    def _bars(self, row, line):
        """The answer to the row that asks why the watch event of a line is not possible."""
        event = _event_in(line)
        if event is None:
            raise InvalidRow(row)
        return _text_or_none(self._watch.barred(event))


def _log_in(row):
    """The log that a row writes, if it has no watch events; None otherwise."""
    try:
        log = read_log(row.split("\n"))
    except InvalidText:
        return None
    return log if len(log) == 1 else None


def _event_in(text):
    """The watch event that a string writes; None if it writes none."""
    try:
        event = read_event(text)
    except InvalidText:
        return None
    return event


def _text_or_none(thing):
    """The text of a word or a number, - for None."""
    return "-" if thing is None else str(thing)


def _all_of(texts, between):
    """These texts with this between them, - without any."""
    return between.join(texts) if len(texts) > 0 else "-"


def _undo(watch):
    return event_line(watch.undo())


def _events(watch):
    return str(len(watch))


def _log(watch):
    return str(watch)


def _guard(watch):
    return watch.guard_now


def _ring(watch):
    ring = watch.ring_now
    return "-" if ring is None else _numbers(ring)


def _places(watch):
    return _all_of([f"{name}@{place}" for name, place in zip(list(watch), watch.places_now)], " ")


def _lying(watch):
    return _numbers([row[0] for row in watch.lying_now])


def _crossings(watch):
    return _all_of([f"{name}@{k}" for name, k in watch.crossings_now], " ")


def _steps(watch):
    return _all_of(["+".join([f"{name}@{k}" for name, k in step]) for step in watch.steps_now], " ")


def _table(watch):
    return _all_of(watch.table(), " / ")


def _program(watch):
    text = program_text(watch.program_now)
    return "-" if text == "" else text.replace("\n", " / ")


def _place_of(watch, name):
    return str(watch[name])


def _since(watch, name):
    return _numbers(watch.letters_since(name))


def _sure(watch, name):
    return "yes" if watch.is_sure_since(name) else "no"


def _numbers(numbers):
    """Numbers with single spaces between, - without any."""
    return _all_of([str(number) for number in numbers], " ")


ANSWERS = {
    "undo": _undo,
    "events": _events,
    "log": _log,
    "guard": _guard,
    "ring": _ring,
    "places": _places,
    "lying": _lying,
    "crossings": _crossings,
    "steps": _steps,
    "table": _table,
    "program": _program,
}
ANSWERS_OF_NAMES = {"place": _place_of, "since": _since, "sure": _sure}
