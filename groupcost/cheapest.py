"""The cheapest group at prices for which hands may be had from outside, and the dues that pay for it."""

from groupcost.falling import must_fall
from groupcost.makers import bounded
from groupcost.masks import within
from groupcost.orders import by_order
from groupcost.tables import everybody, hand_count, row_gives


def cost_with(table, prices, group):
    """What it costs in all where a group works together and the others are had from outside."""
    return table[group] + row_gives(prices, everybody(table) ^ group)


def all_costs(table, prices):
    """What it costs in all with each group, at the place of the group's mask."""
    return [cost_with(table, prices, group) for group in range(len(table))]


def least_cost(table, prices):
    """The least that it costs in all, whatever group works together."""
    return min(all_costs(table, prices))


def cheapest_groups(table, prices):
    """The groups with which it costs least in all, by growing masks."""
    least = least_cost(table, prices)
    return [group for group, cost in enumerate(all_costs(table, prices)) if cost == least]


def dues_of(table, prices):
    """Dues for a table that falls."""
    # The table bounded by the prices falls too and costs all hands the least cost: each base of it is dues.
    return by_order(bounded(table, prices), list(range(hand_count(table))))


def cheapest(table, prices):
    """The least cheapest group of a table that falls, the least cost, and dues."""
    must_fall(table)
    # The least cheapest group lies within all the others, so no mask among them is less than its own.
    group = cheapest_groups(table, prices)[0]
    return (group, least_cost(table, prices), dues_of(table, prices))


def entry_of(table, prices, hand):
    """The least cost with the hand, less the least cost without it, its own price left out there."""
    costs = all_costs(table, prices)
    joined = min([cost for group, cost in enumerate(costs) if within(1 << hand, group)])
    without = min([cost for group, cost in enumerate(costs) if not within(1 << hand, group)])
    return joined - (without - prices[hand])
