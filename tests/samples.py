"""Tables and groups for the tests, and the document's words said anew over sets of hands."""

import itertools
import random

HUGE = int("7" * 200)


def set_of(mask):
    return frozenset(hand for hand in range(8) if mask & 2 ** hand)


def mask_of(hands):
    return sum(2 ** hand for hand in set(hands))


def count_of(table):
    return len(set_of(len(table) - 1))


def sets_of(count):
    return [set_of(mask) for mask in range(2 ** count)]


def as_costs(table):
    return {set_of(mask): cost for mask, cost in enumerate(table)}


def as_table(count, cost_of):
    return [cost_of(hands) for hands in sets_of(count)]


def some_row(count, seed, low=-9, high=9):
    source = random.Random(f"row {count} {seed}")
    return [source.randint(low, high) for _ in range(count)]


def any_table(count, seed, low=-9, high=9):
    source = random.Random(f"table {count} {seed}")
    return [0] + [source.randint(low, high) for _ in range(2 ** count - 1)]


def falling_table(count, seed):
    """A table of covers, cuts and a row: such a sum falls by its making."""
    source = random.Random(f"falling {count} {seed}")
    row = [source.randint(-5, 5) for _ in range(count)]
    covers = [(source.randint(0, 4), set_of(source.randrange(2 ** count))) for _ in range(4)]
    cuts = [(source.randrange(count), source.randrange(count), source.randint(0, 4)) for _ in range(4)]

    def cost_of(hands):
        cost = sum(row[hand] for hand in hands)
        cost += sum(weight for weight, cover in covers if cover & hands)
        return cost + sum(weight for one, other, weight in cuts if one in hands and other not in hands)

    return as_table(count, cost_of)


def rising_table(count, seed):
    return [-cost for cost in falling_table(count, seed)]


def nudged(table, seed):
    """The table with one cost changed by 1 or -1, never that of the empty group."""
    source = random.Random(f"nudge {seed}")
    changed = list(table)
    changed[source.randrange(1, len(table))] += source.choice((1, -1))
    return changed


def bent_table(count, seed):
    """A table that falls, its costs changed here and there as long as it falls."""
    source = random.Random(f"bent {count} {seed}")
    table = falling_table(count, seed)
    for _ in range(12):
        group, change = source.randrange(1, 2 ** count), source.choice((-3, -2, -1, 1, 2, 3))
        changed = table[:group] + [table[group] + change] + table[group + 1:]
        if told_break(changed) is None:
            table = changed
    return table


def long_table(count, seed):
    """A table that falls whose numbers are some two hundred figures long, of either sign."""
    source = random.Random(f"long {count} {seed}")
    row = [source.randint(-HUGE, HUGE) // 64 for _ in range(count)]
    covers = [(source.randint(0, HUGE) // 64, set_of(source.randrange(2 ** count))) for _ in range(8)]
    return as_table(count, lambda hands: gives(row, hands) + sum(weight for weight, cover in covers if cover & hands))


def falling_tables():
    """Tables of one to six hands that fall."""
    tables = []
    for count in range(1, 7):
        for seed in range(6 if count < 5 else 2):
            tables.append(falling_table(count, seed))
            tables.append(bent_table(count, seed))
            tables.append(as_table(count, lambda hands: 0 if not hands else 5))
            tables.append(as_table(count, lambda hands: len(hands) * (2 * count + seed - len(hands)) - 9 * seed *
                                   (len(hands) == count)))
    return tables


def many_tables():
    """Tables of one to six hands that fall, rise, are flat and are none of these."""
    tables = []
    for count in range(1, 7):
        for seed in range(6 if count < 6 else 2):
            tables.append(any_table(count, seed))
            tables.append(any_table(count, seed, 0, 1))
            tables.append(falling_table(count, seed))
            tables.append(nudged(falling_table(count, seed), seed))
            tables.append(rising_table(count, seed))
            tables.append(nudged(rising_table(count, seed), seed))
            row = some_row(count, seed)
            tables.append(as_table(count, lambda hands: sum(row[hand] for hand in hands)))
    return tables


def gives(row, hands):
    """What a row gives a set of hands."""
    return sum(row[hand] for hand in hands)


def told_under(table, shares):
    """[0.2] word by word."""
    return all(gives(shares, hands) <= cost for hands, cost in as_costs(table).items())


def lowered_under(table, row):
    """The row less as much for each hand as puts it under the table."""
    most = max(gives(row, hands) - cost for hands, cost in as_costs(table).items())
    return [number - most for number in row]


def told_base(table, shares):
    return told_under(table, shares) and sum(shares) == table[-1]


def orders_of(count):
    return [list(order) for order in itertools.permutations(range(count))]


def rows_around(count, low, high):
    """All rows with numbers from low to high."""
    return [list(row) for row in itertools.product(range(low, high + 1), repeat=count)]


def bases_of(table):
    """All bases of whole numbers: no share lies outside these ends, the last one is what is left."""
    count = count_of(table)
    ends = [range(table[-1] - table[len(table) - 1 - 2 ** hand], table[2 ** hand] + 1) for hand in range(count)]
    rows = [list(row) + [table[-1] - sum(row)] for row in itertools.product(*ends[:-1])]
    return [row for row in rows if told_under(table, row)]


def told_falls(table):
    """[2.1] word by word."""
    costs = as_costs(table)
    return all(
        costs[one] + costs[other] >= costs[one | other] + costs[one & other] for one in costs for other in costs
    )


def told_rises(table):
    return told_falls([-cost for cost in table])


def told_break(table):
    """[2.2] word by word: the least of all breaks, or None."""
    costs = as_costs(table)
    count = count_of(table)
    breaks = []
    for hands in costs:
        for i in range(count):
            for j in range(count):
                if i < j and i not in hands and j not in hands:
                    apart = costs[hands | {i}] + costs[hands | {j}]
                    if apart < costs[hands | {i, j}] + costs[hands]:
                        breaks.append((mask_of(hands), i, j))
    return min(breaks, default=None)
