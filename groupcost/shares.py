"""Shares under a table: by how much they are over it, their rooms, and the groups that are full."""

from groupcost.masks import shared_with, within
from groupcost.tables import everybody, less_row, row_gives


def over(table, shares):
    """The first group by masks that shares give most above what it costs, and by how much."""
    left = less_row(table, shares)
    least = min(left)
    return (left.index(least), -least)


def is_under(table, shares):
    """Whether shares give no group more than it costs."""
    return over(table, shares)[1] == 0


def is_base(table, shares):
    """Whether shares are under a table and give all hands just what they cost."""
    whole = everybody(table)
    return is_under(table, shares) and row_gives(shares, whole) == table[whole]


def keeps_to(shares, bounds):
    """Whether no hand's share is above its bound."""
    return all([share <= bound for share, bound in zip(shares, bounds)])


def room_of(table, shares, hand):
    """The least that is left of what a group with the hand costs."""
    left = less_row(table, shares)
    return min([spare for group, spare in enumerate(left) if within(1 << hand, group)])


def way_room(table, shares, grows, falls):
    """The least that is left of what a group costs that has the hand that grows and not the one that falls."""
    left = less_row(table, shares)
    # Where only the bit of the hand that grows is left of the two, the group has it and not the other one.
    both = (1 << grows) | (1 << falls)
    return min([spare for group, spare in enumerate(left) if group & both == 1 << grows])


def full_groups(table, shares):
    """The groups that shares under a table give just what they cost, by growing masks."""
    return [group for group, spare in enumerate(less_row(table, shares)) if spare == 0]


def core_of(table, shares, hand):
    """The hands that all full groups with the hand have in common, or None where no full group has it."""
    return shared_with(full_groups(table, shares), hand)
