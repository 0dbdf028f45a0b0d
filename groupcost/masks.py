"""Groups of hands, told as masks."""


def hands_in(group):
    """The hands of a group, in growing order."""
    return [hand for hand in range(group.bit_length()) if (group >> hand) & 1]


def many_in(group):
    """How many hands a group has."""
    return len(hands_in(group))


def group_of(hands):
    """The group of the hands of a list; one told twice counts once."""
    group = 0
    for hand in hands:
        group = group | (1 << hand)
    return group


def within(one, other):
    """Whether each hand of the group one belongs to the group other."""
    return (one & other) == one


def groups_in(group):
    """All groups within a group by growing masks, the empty one and itself among them."""
    groups = [0]
    for hand in hands_in(group):
        # Each hand's bit is worth more than all bits ahead of it together, so the masks stay in order.
        groups = groups + [smaller | (1 << hand) for smaller in groups]
    return groups


def shared_with(groups, hand):
    """The hands that all those of some groups have in common that have the hand, or None where none has it."""
    shared = None
    for group in groups:
        if within(1 << hand, group):
            shared = group if shared is None else shared & group
    return shared
