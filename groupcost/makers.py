"""Tables made of covers, cuts, steps and lines, and a table bounded by a row."""

from groupcost.errors import BadMaker
from groupcost.masks import groups_in, hands_in, many_in, within
from groupcost.tables import row_gives

MOST_HANDS = 6
MOST_NUMBERS = 6


def check_hands(hands):
    """Refuses a number of hands that no table has."""
    if hands < 1 or hands > MOST_HANDS:
        raise BadMaker("there are one to six hands")


def check_weight(weight):
    """Refuses a weight below nought."""
    if weight < 0:
        raise BadMaker("a weight is from nought on")


def check_covers(hands, covers):
    """Refuses covers that are not told rightly for so many hands."""
    for weight, group in covers:
        check_weight(weight)
        if group < 0 or group >= (1 << hands):
            raise BadMaker("a cover is a group of the hands")


def from_covers(hands, covers):
    """The table that costs each group the weights of the covers that have a hand in common with it."""
    check_hands(hands)
    check_covers(hands, covers)
    return [sum([weight for weight, cover in covers if cover & group != 0]) for group in range(1 << hands)]


def check_cuts(hands, cuts):
    """Refuses cuts that are not told rightly for so many hands."""
    for one, other, weight in cuts:
        check_weight(weight)
        if min(one, other) < 0 or max(one, other) >= hands:
            raise BadMaker("a cut goes from one of the hands to another one")
        if one == other:
            raise BadMaker("the two hands of a cut are unlike")


def is_cut(group, one, other):
    """Whether the hand one belongs to a group and the hand other doesn't."""
    return within(1 << one, group) and not within(1 << other, group)


def from_cuts(hands, cuts):
    """The table that costs each group the weights of the cuts that lead out of it."""
    check_hands(hands)
    check_cuts(hands, cuts)
    return [sum([weight for one, other, weight in cuts if is_cut(group, one, other)]) for group in range(1 << hands)]


def from_steps(steps):
    """The table that costs a group of k hands the sum of the first k steps."""
    check_hands(len(steps))
    for ahead, step in zip(steps, steps[1:]):
        if step > ahead:
            raise BadMaker("no step is greater than the one ahead of it")
    return [sum(steps[:many_in(group)]) for group in range(1 << len(steps))]


def check_lines(lines):
    """Refuses lines that are not one for each hand, all of one length."""
    check_hands(len(lines))
    for line in lines:
        if len(line) != len(lines[0]):
            raise BadMaker("all lines are of one length")
        if len(line) > MOST_NUMBERS:
            raise BadMaker("a line has at most six numbers")


def first_filled(line):
    """The first place of a line at which no nought stands, or None where all are noughts."""
    for place, number in enumerate(line):
        if number != 0:
            return place
    return None


def cleared(line, lead, place):
    """A line taken some times, less another one taken some times, so that a nought comes to a place."""
    return [lead[place] * number - line[place] * less for number, less in zip(line, lead)]


def free_count(lines):
    """How many of some lines are free of one another."""
    rest = list(lines)
    count = 0
    while len(rest) > 0:
        lead = rest[0]
        rest = rest[1:]
        place = first_filled(lead)
        if place is not None:
            count = count + 1
            # No dividing, which would round: a line taken some times is as free as it was.
            rest = [cleared(line, lead, place) for line in rest]
    return count


def from_lines(lines):
    """The table that costs each group how many of its hands' lines are free of one another."""
    check_lines(lines)
    return [free_count([lines[hand] for hand in hands_in(group)]) for group in range(1 << len(lines))]


def bounded_cost(table, row, group):
    """The least sum of what a group within a group costs and what a row gives the rest of it."""
    return min([table[part] + row_gives(row, group ^ part) for part in groups_in(group)])


def bounded(table, row):
    """A table bounded by a row."""
    return [bounded_cost(table, row, group) for group in range(len(table))]
