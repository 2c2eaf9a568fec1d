"""What a party can do in two programs, and runs in which it does just what is asked."""

from ascalls.errors import NotUsable
from ascalls.judging import check_calls
from ascalls.kinds import is_doing, is_program
from ascalls.programparts import find_party, party_of
from ascalls.stands import Moves, Search, first_stand
from ascalls.viewtables import doing_in, view_rows


def are_alike_to(program, other, party):
    """Whether a party can do the same in two programs."""
    rows, others = _tables_of(program, other, party)
    return rows == others


def parting_doings(program, other, party):
    """The least of the shortest tuples that a party can do in one of two programs alone; None without any."""
    rows, others = _tables_of(program, other, party)
    # Doings come in order, so of those of one length the least tuple is always met first.
    waiting = [(0, 0, ())]
    known = {(0, 0): True}
    at = 0
    while at < len(waiting):
        i, j, doings = waiting[at]
        at = at + 1
        steps, others_steps = dict(rows[i]), dict(others[j])
        for doing in sorted(set(list(steps) + list(others_steps))):
            if doing not in steps or doing not in others_steps:
                return doings + (doing,)
            pair = (steps[doing], others_steps[doing])
            if pair not in known:
                known[pair] = True
                waiting.append(pair + (doings + (doing,),))
    return None


def run_for(program, party, doings):
    """Any run in which a party does just these doings, in this order; None if there is none."""
    arrows = party_of(program, party)[2]
    if not isinstance(doings, tuple) or not all([is_doing(doing) for doing in doings]):
        raise NotUsable("doings", -1)
    check_calls(program)
    moves = Moves(program)
    known = {(party, k): arrow[1] for k, arrow in enumerate(arrows)}
    search = Search((first_stand(program), 0))
    found = search.next_found()
    while found is not None and found[1] < len(doings):
        stand, many = found
        search.lead_on(found, _pairs_for(moves.after(stand), known, many, doings[many]))
        found = search.next_found()
    return None if found is None else search.way_to(found)


def _tables_of(program, other, party):
    """The view tables of a party in two programs."""
    if not is_program(other):
        raise NotUsable("other", -1)
    if find_party(program, party) is None or find_party(other, party) is None:
        raise NotUsable("party", -1)
    return (view_rows(program, party), view_rows(other, party))


def _pairs_for(pairs, known, many, wanted):
    """Those of the moves of a stand at which the party has done so many doings that do no other one than is wanted."""
    found = []
    for move, later in pairs:
        doing = doing_in(move, known)
        if doing is None:
            found.append((move, (later, many)))
        elif doing == wanted:
            found.append((move, (later, many + 1)))
    return found
