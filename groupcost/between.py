"""A row between a low table and a high one, and a base of a sum split into bases of the two."""

from groupcost.errors import NotBase, NotRising
from groupcost.falling import must_fall, rises
from groupcost.parting import common_shares
from groupcost.shares import is_base
from groupcost.tables import added, less_row, mirror, must_be_alike, scaled


def bar_of(low, high):
    """The first group by masks that costs more by the low table than by the high one, or None."""
    for group in range(len(low)):
        if low[group] > high[group]:
            return group
    return None


def row_between(low, high):
    """A row between a low table that rises and a high one that falls, where there is no bar."""
    # Shares under the mirror of the low table that give all hands what these cost by the low one
    # give no group less than it costs by the low one; and no parting costs less than that.
    return common_shares(high, mirror(low))


def between(low, high):
    """A row between two tables as ("row", shares), or the group that bars it as ("bar", group)."""
    must_be_alike(low, high)
    if not rises(low):
        raise NotRising("the low table does not rise")
    must_fall(high)
    bar = bar_of(low, high)
    if bar is not None:
        return ("bar", bar)
    return ("row", row_between(low, high))


def split_base(one, other, shares):
    """A base of the sum of two tables that fall as the sum of a base of the one and a base of the other."""
    must_be_alike(one, other)
    must_fall(one)
    must_fall(other)
    if not is_base(added(one, other), shares):
        raise NotBase("the shares are no base of the sum")
    # What the shares give a group beyond what the other table lets it have is what the one has to give it.
    due = scaled(-1, less_row(other, shares))
    first = row_between(due, one)
    return (first, [share - part for share, part in zip(shares, first)])
