"""Pictures of runs: a row for each event, a column for each party."""

from ascalls.letters import letters_by_index
from ascalls.programparts import doing_of
from ascalls.programtexts import doing_text
from ascalls.runs import rows_of_run

MARK_WIDTH = 3
TEXT_WIDTH = 26


def picture(program, made):
    """The list of the strings that show a run."""
    letters = letters_by_index(rows_of_run(program, made, "made"))
    names = [party[0] for party in program[0]]
    lines = [_line_of("", names)]
    for k, event in enumerate(made):
        text = doing_text(doing_of(program, event))
        if k in letters:
            text = f"{text} {letters[k]}"
        lines.append(_line_of(str(k), [text if name == event[0] else "" for name in names]))
    return lines


def _line_of(mark, texts):
    """The string with this mark, and with these texts in the fields of the parties."""
    return mark.rjust(MARK_WIDTH) + "".join([" " + text.ljust(TEXT_WIDTH) for text in texts])
