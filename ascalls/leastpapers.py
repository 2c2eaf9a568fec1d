"""Papers that state which sets of channels are the least that suffice, and which the greatest that do not."""

from ascalls.callpapers import call_paper
from ascalls.leastcalls import greatest_others, least_calls
from ascalls.programchanges import with_calls


def least_paper(program):
    """Any least paper of a program."""
    return (_papers_of(program, least_calls(program)), _papers_of(program, greatest_others(program)))


def _papers_of(program, sets):
    """The tuple of the pairs of the names of channels and the call paper of the program with these made calls."""
    return tuple([(names, call_paper(with_calls(program, names))) for names in sets])
