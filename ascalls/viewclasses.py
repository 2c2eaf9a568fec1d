"""What a party can do, as values that never change: compared, joined and met."""

from ascalls.errors import NotUsable
from ascalls.kinds import is_doing, is_name
from ascalls.viewchecker import lets_rows
from ascalls.viewtables import least_rows, view_rows


class View:
    """The tuples of doings that a view table has; what its operators return are new ones."""

    def __init__(self, rows):
        lets_rows(rows)
        self._rows = rows

    @property
    def rows(self):
        """The view table."""
        return self._rows

    @classmethod
    def made(cls, program, party):
        """The View of what a party can do."""
        return View(view_rows(program, party))

    @staticmethod
    def nothing():
        """The View that has the empty tuple alone."""
        return View(((),))

    def __eq__(self, other):
        return isinstance(other, View) and self._rows == other._rows

    def __le__(self, other):
        if not isinstance(other, View):
            raise NotUsable("other", -1)
        return _has_all(other._rows, self._rows)

    def __ge__(self, other):
        if not isinstance(other, View):
            raise NotUsable("other", -1)
        return _has_all(self._rows, other._rows)

    def __and__(self, other):
        if not isinstance(other, View):
            raise NotUsable("other", -1)
        return View(least_rows(_arcs_of_both(self._rows, other._rows)))

    def __or__(self, other):
        if not isinstance(other, View):
            raise NotUsable("other", -1)
        return View(least_rows(_arcs_of_either(self._rows, other._rows)))

    def __contains__(self, x):
        return _row_after(self._rows, x) is not None

    def __call__(self, doings):
        row = _row_after(self._rows, doings)
        if row is None:
            raise NotUsable("doings", -1)
        return tuple([doing for doing, _ in row])

    def __len__(self):
        return len(self._rows)

    def without(self, name):
        """The View without all puts and takes on the channel of this name."""
        if not is_name(name):
            raise NotUsable("name", -1)
        return View(least_rows([_arcs_without(row, name) for row in self._rows]))


def _row_after(rows, thing):
    """The row to which any value leads from row 0; None if the table does not have it."""
    if not isinstance(thing, tuple) or not all([is_doing(doing) for doing in thing]):
        return None
    row = rows[0]
    for doing in thing:
        steps = dict(row)
        if doing not in steps:
            return None
        row = rows[steps[doing]]
    return row


def _has_all(rows, others):
    """Whether a table has all that another one has."""
    pairs = [(0, 0)]
    known = {(0, 0): True}
    at = 0
    while at < len(pairs):
        i, j = pairs[at]
        at = at + 1
        steps = dict(rows[i])
        for doing, later in others[j]:
            if doing not in steps:
                return False
            pair = (steps[doing], later)
            if pair not in known:
                known[pair] = True
                pairs.append(pair)
    return True


def _arcs_of_both(rows, others):
    """The arcs of what both tables have; each spot is a row of each of them."""
    pairs = [(0, 0)]
    numbers = {(0, 0): 0}
    arcs = []
    while len(arcs) < len(pairs):
        i, j = pairs[len(arcs)]
        steps = dict(rows[i])
        found = []
        for doing, later in others[j]:
            if doing in steps:
                pair = (steps[doing], later)
                if pair not in numbers:
                    numbers[pair] = len(pairs)
                    pairs.append(pair)
                found.append((doing, numbers[pair]))
        arcs.append(found)
    return arcs


def _arcs_of_either(rows, others):
    """The arcs of what one of the tables at least has: from spot 0 one goes over to row 0 of one of them."""
    many = len(rows)
    arcs = [[(None, 1), (None, many + 1)]]
    arcs.extend([[(doing, j + 1) for doing, j in row] for row in rows])
    arcs.extend([[(doing, j + many + 1) for doing, j in row] for row in others])
    return arcs


def _arcs_without(row, name):
    """The arcs of a row where the puts on and the takes from a channel of this name are left out."""
    arcs = []
    for doing, j in row:
        # The word of a do is no channel.
        is_on = doing[0] != "do" and doing[1] == name
        arcs.append((None if is_on else doing, j))
    return arcs
