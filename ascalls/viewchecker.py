"""The checker of view tables."""

from ascalls.errors import InvalidPaper
from ascalls.kinds import ascends, is_doing, is_number, is_row
from ascalls.viewtables import row_classes


def lets_rows(thing):
    """The number of rows of a view table; InvalidPaper for any value that is none."""
    if not isinstance(thing, tuple) or len(thing) == 0 or not all([_is_table_row(row) for row in thing]):
        raise InvalidPaper("shape", -1)
    greatest = 0
    for i, row in enumerate(thing):
        if not ascends([doing for doing, _ in row]):
            raise InvalidPaper("order", i)
        if not all([j < len(thing) for _, j in row]):
            raise InvalidPaper("number", i)
        # The numbers so far are just those up to the greatest, so a row behind it is not among them.
        if i > greatest:
            raise InvalidPaper("met", i)
        for _, j in row:
            if j > greatest + 1:
                raise InvalidPaper("met", i)
            if j > greatest:
                greatest = j
    _check_alike(row_classes(thing))
    return len(thing)


def _is_table_row(thing):
    """Whether any value is a tuple of pairs of a doing and a number."""
    if not isinstance(thing, tuple):
        return False
    return all([is_row(pair, 2) and is_doing(pair[0]) and is_number(pair[1]) for pair in thing])


def _check_alike(classes):
    """InvalidPaper for the least pair of rows of one class."""
    for i, number in enumerate(classes):
        if number in classes[i + 1:]:
            raise InvalidPaper("alike", (i, classes.index(number, i + 1)))
