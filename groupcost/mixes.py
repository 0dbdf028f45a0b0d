"""Mixes of orders, and a mix for each base of a table that falls."""

from groupcost.errors import NotBase
from groupcost.falling import must_fall
from groupcost.fractions import fraction, fraction_less
from groupcost.kinds import is_order
from groupcost.masks import many_in, shared_with
from groupcost.orders import by_order
from groupcost.shares import full_groups, is_base
from groupcost.tables import hand_count, less_row, scaled


def mix_row(table, mix):
    """What a mix gives each hand, by any table."""
    row = [0] * hand_count(table)
    for order, many in mix:
        row = [given + many * share for given, share in zip(row, by_order(table, order))]
    return row


def mix_size(mix):
    """The sum of the manys of a mix."""
    return sum([many for order, many in mix])


def is_mix(table, shares, mix):
    """Whether a list is a mix of shares by a table."""
    hands = hand_count(table)
    if len(mix) == 0 or not all([many >= 1 and is_order(hands, order) for order, many in mix]):
        return False
    return mix_row(table, mix) == [share * mix_size(mix) for share in shares]


def core_order(table, shares):
    """An order by which the hands take a base that fills all groups that are full under a base of a table."""
    full = full_groups(table, shares)
    cores = [shared_with(full, hand) for hand in range(len(shares))]
    # Each hand of a hand's core has the same core or a lesser one, so it stands no later than the last hand of that
    # core. So the hands up to the last one of a core are the hands of full groups, a full group themselves.
    return sorted(range(len(shares)), key=lambda hand: (many_in(cores[hand]), cores[hand], hand))


def most_of(table, size, rest, shares):
    """How many times at most, a fraction, shares are taken from a rest that is a base of the table size times."""
    most = (size, 1)
    spares = less_row(scaled(size, table), rest)
    for spare, gap in zip(spares, less_row(table, shares)):
        # Taking the shares once leaves the group's spare as it is, less the gap.
        if gap > 0 and fraction_less((spare, gap), most):
            most = fraction(spare, gap)
    return most


def mixed(table, shares):
    """A mix of a base of a table that falls, with at most as many pairs as there are hands."""
    must_fall(table)
    if not is_base(table, shares):
        raise NotBase("the shares are no base of the table")
    mix = []
    size = 1
    rest = shares
    # The mix and the rest give the shares some times; the rest is a base of the table taken size times. As much as
    # can be is taken from it by an order that fills its full groups: these stay full, and one more comes to be full.
    while size > 0:
        order = core_order(scaled(size, table), rest)
        taken = by_order(table, order)
        most = most_of(table, size, rest, taken)
        rest = [most[1] * left - most[0] * share for left, share in zip(rest, taken)]
        size = most[1] * size - most[0]
        mix = [(ahead, most[1] * many) for ahead, many in mix] + [(order, most[0])]
    return mix
