"""Two tables that part the hands, shares under both of them, and a hand that is fixed at a share."""

from groupcost.errors import NotUnder
from groupcost.falling import must_fall
from groupcost.masks import groups_in
from groupcost.tables import everybody, kept_to, must_be_alike


def parting_cost(one, other, group):
    """What it costs where a group works by the one table and the others by the other one."""
    return one[group] + other[everybody(one) ^ group]


def parting(one, other):
    """The first group by masks for which a parting costs least, and what it costs."""
    must_be_alike(one, other)
    costs = [parting_cost(one, other, group) for group in range(len(one))]
    least = min(costs)
    return (costs.index(least), least)


def fixed_hand(table, hand, share):
    """The table of the other hands, numbered anew in their order, where a hand is fixed at a share."""
    fixed = 1 << hand
    if share > table[fixed]:
        raise NotUnder("the share is more than what the hand costs alone")
    return [min(table[group], table[group | fixed] - share) for group in groups_in(everybody(table) ^ fixed)]


def least_share(one, other):
    """The least that the first hand can have of shares under both tables that come to the least parting."""
    rest = everybody(one) ^ 1
    return parting(one, other)[1] - parting(kept_to(one, rest), kept_to(other, rest))[1]


def common_shares(one, other):
    """Shares under two tables that fall that come to what the least parting costs."""
    first = one
    second = other
    shares = []
    # With the first hand fixed at its share the tables of the others fall too, and their least parting is what is
    # left to share. Behind the last hand comes the table of no hands, which has the empty group alone.
    while len(first) > 1:
        share = least_share(first, second)
        shares.append(share)
        first = fixed_hand(first, 0, share)
        second = fixed_hand(second, 0, share)
    return shares


def common(one, other):
    """Common shares of two tables that fall, and the parting's group."""
    must_be_alike(one, other)
    must_fall(one)
    must_fall(other)
    return (common_shares(one, other), parting(one, other)[0])
