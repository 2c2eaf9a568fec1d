"""Papers that state whether a program is as calls."""

from ascalls.judging import run_or_table
from ascalls.letters import shortest_ring


def call_paper(program):
    """Any call paper of a program; a table of all watched stands that can come if it is as calls."""
    run, stands = run_or_table(program)
    if run is None:
        return ("table", tuple(stands))
    return ("ring", run, shortest_ring(program, run))
