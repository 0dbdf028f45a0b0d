"""Tables that fall, that rise, and that are flat."""

from groupcost.errors import NotFalling
from groupcost.masks import hands_in
from groupcost.tables import everybody, hand_count, row_table, scaled


def two_break(table, one, other):
    """Whether two groups cost less than either's and both's hands together."""
    return table[one] + table[other] < table[one | other] + table[one & other]


def break_beside(table, group):
    """The first break (group, i, j) of a table at a group by i, then by j, or None."""
    outside = hands_in(everybody(table) ^ group)
    for place, first in enumerate(outside):
        for second in outside[place + 1:]:
            if two_break(table, group | (1 << first), group | (1 << second)):
                return (group, first, second)
    return None


def break_of(table):
    """The break of a table, by the least group, then the least hands; None where the table falls."""
    for group in range(len(table)):
        found = break_beside(table, group)
        if found is not None:
            return found
    return None


def rise_break(table):
    """The break of a table's rising, told like that of falling; None where the table rises."""
    # A table rises just where the table of opposite signs falls, with the same breaks.
    return break_of(scaled(-1, table))


def falls(table):
    """Whether a table falls."""
    return break_of(table) is None


def must_fall(table):
    """Refuses a table that does not fall."""
    if not falls(table):
        raise NotFalling("the table does not fall")


def rises(table):
    """Whether a table rises."""
    return rise_break(table) is None


def flat_row(table):
    """The row of a flat table, or None where the table isn't flat."""
    row = [table[1 << hand] for hand in range(hand_count(table))]
    return row if row_table(row) == table else None
