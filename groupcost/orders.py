"""Shares by an order of the hands: taken in turn, and raised in turn."""

from groupcost.errors import NotUnder
from groupcost.shares import is_under, keeps_to, room_of
from groupcost.tables import hand_count


def by_order(table, order):
    """Each hand in turn takes what the hands ahead of it and itself cost, less what those ahead of it cost."""
    shares = [0] * hand_count(table)
    ahead = 0
    for hand in order:
        joined = ahead | (1 << hand)
        shares[hand] = table[joined] - table[ahead]
        ahead = joined
    return shares


def check_raisable(table, shares, bounds):
    """Refuses shares that are not under a table, or above a bound."""
    if not is_under(table, shares):
        raise NotUnder("the shares give a group more than it costs")
    if not keeps_to(shares, bounds):
        raise NotUnder("a share is above its bound")


def raised(table, shares, bounds, order=None):
    """Shares under a table with each hand in turn raised as far as its room and its bound let."""
    check_raisable(table, shares, bounds)
    turns = list(range(hand_count(table))) if order is None else order
    grown = list(shares)
    for hand in turns:
        grown[hand] = min(grown[hand] + room_of(table, grown, hand), bounds[hand])
    return grown
