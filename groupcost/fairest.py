"""The fairest shares of a table that falls, and the steps that show them."""

from groupcost.falling import must_fall
from groupcost.fractions import fraction, fraction_less, fraction_times
from groupcost.masks import groups_in, within
from groupcost.shares import is_base
from groupcost.tables import everybody, hand_count, row_gives, scaled


def weights_for(table, weights):
    """The told weights, or a weight of 1 for each hand where none are told."""
    return [1] * hand_count(table) if weights is None else weights


def density_behind(table, weights, ahead, joining):
    """The density of a group of hands outside the group ahead, by the table behind that one."""
    return fraction(table[ahead | joining] - table[ahead], row_gives(weights_for(table, weights), joining))


def density(table, weights, group):
    """What a group that isn't empty costs, divided by the sum of its hands' weights."""
    return density_behind(table, weights, 0, group)


def step_behind(table, weights, ahead):
    """The first step of the table behind a group: the group of all hands so far, and the step's own density."""
    step = None
    for joining in groups_in(everybody(table) ^ ahead)[1:]:
        found = density_behind(table, weights, ahead, joining)
        # The greatest group of least density has all the others within it, so its mask comes last among them.
        if step is None or not fraction_less(step[1], found):
            step = (ahead | joining, found)
    return step


def fair_steps(table, weights=None):
    """The steps of a table that falls, each a pair of the group of all hands so far and its own density."""
    must_fall(table)
    steps = []
    ahead = 0
    while ahead != everybody(table):
        step = step_behind(table, weights, ahead)
        steps.append(step)
        ahead = step[0]
    return steps


def first_fraction(steps, hand):
    """The fraction of the first group that has the hand, where one has it."""
    return [found for group, found in steps if within(1 << hand, group)][0]


def shares_by_steps(weights, steps):
    """For each hand its weight times the fraction of the first group that has it."""
    return [fraction_times(weight, first_fraction(steps, hand)) for hand, weight in enumerate(weights)]


def fairest(table, weights=None):
    """The fairest shares of a table that falls: a fraction for each hand."""
    return shares_by_steps(weights_for(table, weights), fair_steps(table, weights))


def groups_grow(whole, steps):
    """Whether each group of the steps has more hands than the one ahead and all of these, the last one all hands."""
    ahead = 0
    for group, found in steps:
        if group == ahead or not within(ahead, group):
            return False
        ahead = group
    return ahead == whole


def fractions_grow(steps):
    """Whether each fraction of the steps is greater than the one ahead."""
    return all([fraction_less(one[1], other[1]) for one, other in zip(steps, steps[1:])])


def fills(table, shares, steps):
    """Whether a row of fractions is a base that gives each group of the steps just what it costs."""
    # Taken as many times as this the fractions are whole numbers; the table taken as often is held against them.
    many = 1
    for share in shares:
        many = many * share[1]
    costs = scaled(many, table)
    row = [share[0] * (many // share[1]) for share in shares]
    return is_base(costs, row) and all([row_gives(row, group) == costs[group] for group, found in steps])


def shows_fairest(table, weights, shares, steps):
    """Whether steps show that shares are the fairest ones, of any table."""
    if not groups_grow(everybody(table), steps) or not fractions_grow(steps):
        return False
    return shares == shares_by_steps(weights_for(table, weights), steps) and fills(table, shares, steps)
