"""Doings and programs as text."""


def doing_text(doing):
    """The words of a doing, with single spaces between."""
    return " ".join(doing)


def program_text(program):
    """The lines of a program, also of what the readers return, with newlines between."""
    parties, channels = program
    lines = ["channel " + " ".join(channel) for channel in channels]
    for name, ends, arrows in parties:
        lines.append(f"party {name} {_ends_text(ends)}")
        for start, doing, end in arrows:
            lines.append(f"arrow {name} {start} {doing_text(doing)} {end}")
    return "\n".join(lines)


def _ends_text(ends):
    if len(ends) == 0:
        return "-"
    return ",".join([str(place) for place in ends])
