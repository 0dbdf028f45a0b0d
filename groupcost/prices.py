"""Prices of the hands: their order and chain, what a table is worth at them, and the bases that weigh most."""

from groupcost.falling import break_of, must_fall
from groupcost.masks import group_of, within
from groupcost.orders import by_order
from groupcost.shares import is_base
from groupcost.tables import hand_count, row_gives


def price_order(prices):
    """The hands by falling price, those of one price by number."""
    return sorted(range(len(prices)), key=lambda hand: (-prices[hand], hand))


def price_chain(prices):
    """A pair (group, step) for each different price, the greatest price first."""
    levels = list(reversed(sorted(set(prices))))
    chain = []
    # Behind the smallest price comes nought, so that the last step is that price itself.
    for level, lower in zip(levels, levels[1:] + [0]):
        group = group_of([hand for hand, price in enumerate(prices) if price >= level])
        chain.append((group, level - lower))
    return chain


def worth_at(table, prices):
    """What a table is worth at prices: the steps of the chain, each times what its group costs."""
    return sum([step * table[group] for group, step in price_chain(prices)])


def weight_of(shares, prices):
    """What shares weigh at prices: the hands' shares, each times the hand's price."""
    return sum([share * price for share, price in zip(shares, prices)])


def best_base(table, prices):
    """The base of a table that falls that comes of the order of prices."""
    must_fall(table)
    return by_order(table, price_order(prices))


def is_best(table, prices, shares):
    """Whether shares are a base under which each group of the chain is full."""
    if not is_base(table, shares):
        return False
    return all([row_gives(shares, group) == table[group] for group, step in price_chain(prices)])


def group_prices(hands, group):
    """The prices of so many hands that are 1 for the hands of a group and 0 for the others."""
    return [1 if within(1 << hand, group) else 0 for hand in range(hands)]


def break_prices(table):
    """Two rows of prices at which a table that does not fall shows it, or None where it falls."""
    found = break_of(table)
    if found is None:
        return None
    hands = hand_count(table)
    one = group_prices(hands, found[0] | (1 << found[1]))
    other = group_prices(hands, found[0] | (1 << found[2]))
    return (one, other)
