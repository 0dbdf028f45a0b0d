"""Tables of what each group costs together, and rows with a number for each hand."""

from groupcost.errors import BadTable, Unlike
from groupcost.masks import group_of, groups_in, hands_in

TABLE_LENGTHS = (2, 4, 8, 16, 32, 64)


def table_of(numbers):
    """A list of numbers made a table: a copy of it."""
    if len(numbers) not in TABLE_LENGTHS:
        raise BadTable("a table has 2, 4, 8, 16, 32 or 64 numbers")
    if numbers[0] != 0:
        raise BadTable("the empty group costs 0")
    return list(numbers)


def hand_count(table):
    """How many hands a table has."""
    return len(table).bit_length() - 1


def everybody(table):
    """The group of all hands of a table."""
    return len(table) - 1


def row_gives(row, group):
    """What a row gives a group: the sum of its numbers for the group's hands."""
    return sum([row[hand] for hand in hands_in(group)])


def must_be_alike(one, other):
    """Refuses two tables that have not as many hands."""
    if len(one) != len(other):
        raise Unlike("the two tables have not as many hands")


def added(one, other):
    """Two tables of as many hands, added group by group."""
    must_be_alike(one, other)
    return [cost + more for cost, more in zip(one, other)]


def scaled(many, table):
    """A table taken many times."""
    return [many * cost for cost in table]


def row_table(row):
    """The table that costs each group what the row gives it."""
    return [row_gives(row, group) for group in range(1 << len(row))]


def less_row(table, row):
    """The table that costs each group what it cost, less what the row gives it."""
    if len(row) != hand_count(table):
        raise Unlike("the row has not a number for each hand")
    return [cost - row_gives(row, group) for group, cost in enumerate(table)]


def mirror(table):
    """The table that costs each group what all hands cost, less what the hands outside it cost."""
    whole = everybody(table)
    return [table[whole] - table[whole ^ group] for group in range(len(table))]


def kept_to(table, group):
    """The table of the hands of a group that isn't empty, numbered anew in their order."""
    # The new masks 0, 1, 2 .. stand for the groups within it by growing masks, as the hands keep their order.
    return [table[kept] for kept in groups_in(group)]


def behind(table, group):
    """The table of the hands outside a group, numbered anew in their order: what they cost on top of it."""
    outside = everybody(table) ^ group
    return [table[group | joining] - table[group] for joining in groups_in(outside)]


def by_numbers(table, order):
    """The table with the hands numbered anew: new hand k is the old hand at place k of the order."""
    return [table[group_of([order[hand] for hand in hands_in(group)])] for group in range(len(table))]
