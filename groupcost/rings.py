"""Rings of groups: lists that hold either's and both's hands of any two of their groups."""

from groupcost.masks import groups_in, hands_in, shared_with, within


def is_ring(groups):
    """Whether a list has a group, and with any two groups either's and both's hands, too."""
    for one in groups:
        for other in groups:
            if (one | other) not in groups or (one & other) not in groups:
                return False
    return len(groups) > 0


def ring_of(groups, hands):
    """The triple (always, may, needs) of a ring of groups of so many hands."""
    always = (1 << hands) - 1
    may = 0
    for group in groups:
        always = always & group
        may = may | group
    return (always, may, [shared_with(groups, hand) for hand in range(hands)])


def has_needs(group, needs):
    """Whether a group has with each of its hands all of that hand's needs."""
    return all([within(needs[hand], group) for hand in hands_in(group)])


def ring_groups(ring):
    """The groups of a ring, each once, by growing masks."""
    return [group for group in groups_in(ring[1]) if within(ring[0], group) and has_needs(group, ring[2])]
