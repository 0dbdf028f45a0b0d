"""All orders of the hands, and the mean of a table over them."""

from groupcost.mixes import mix_row
from groupcost.tables import hand_count


def longer_orders(begun, hands):
    """The beginnings of orders that have one hand more than a told one, by growing last hands."""
    return [begun + [hand] for hand in range(hands) if hand not in begun]


def all_orders(hands):
    """All orders of so many hands, as lists are ordered by their first unlike numbers."""
    orders = [[]]
    for place in range(hands):
        longer = []
        for begun in orders:
            longer.extend(longer_orders(begun, hands))
        orders = longer
    return orders


def mean_row(table):
    """The sum of the hands' shares by all orders, of any table."""
    return mix_row(table, [(order, 1) for order in all_orders(hand_count(table))])
