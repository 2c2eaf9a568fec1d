"""Logs, and watches that are made again from them."""

from ascalls.kinds import is_guard, is_program, is_row, is_watch_event
from ascalls.watches import Watch


def is_log(thing):
    """Whether any value is a log: a beginning, and watch events by form, possible or not."""
    if not isinstance(thing, tuple) or len(thing) == 0 or not is_row(thing[0], 3):
        return False
    word, program, guard = thing[0]
    if word != "watch" or not is_program(program) or not is_guard(guard):
        return False
    return all([is_watch_event(event) for event in thing[1:]])


def replayed(log):
    """A new watch after the watch events of a log."""
    _, program, guard = log[0]
    watch = Watch(program, guard=guard)
    watch.follow(log[1:])
    return watch
