"""Watch events and logs as text."""

from ascalls.programtexts import doing_text, program_text


def event_line(event):
    """The line of a watch event by form."""
    if event[0] == "did":
        return " ".join(["did"] + [f"{name} {k}" for name, k in event[1]])
    if event[0] == "arrow":
        start, doing, end = event[2]
        return f"arrow {event[1]} {start} {doing_text(doing)} {end}"
    return " ".join(event)


def log_lines(log):
    """The list of the lines of a log."""
    _, program, guard = log[0]
    text = program_text(program)
    lines = [] if text == "" else text.split("\n")
    return [f"watch {guard} {len(lines)}"] + lines + [event_line(event) for event in log[1:]]
