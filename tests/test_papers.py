"""[9.1], [9.3], [9.4]: what a paper shows, and whether it is made for so many hands."""

import itertools
import unittest

from groupcost.between import between
from groupcost.cheapest import cheapest
from groupcost.papers import made_for, shows_bar, shows_best, shows_between, shows_cheapest, shows_common
from groupcost.parting import common
from groupcost.prices import best_base, weight_of
from groupcost.tables import mirror
from samples import (
    HUGE, any_table, as_costs, bent_table, count_of, falling_tables, gives, long_table, rows_around, set_of, sets_of,
    some_row, told_base, told_break, told_under,
)

TWO = [0, 5, 6, 8]
RISING = [0, 1, 2, 5]


def told_cost(table, prices, group):
    """[5.1] word by word."""
    others = set_of(len(table) - 1) - set_of(group)
    return table[group] + gives(prices, others)


def told_worth(table, prices):
    """[4.2] word by word."""
    worth = 0
    levels = sorted(set(prices), reverse=True)
    for level, lower in zip(levels, levels[1:] + [0]):
        group = sum(2 ** hand for hand, price in enumerate(prices) if price >= level)
        worth += (level - lower) * table[group]
    return worth


def small_tables():
    """Tables of one and two hands with small numbers, falling or not."""
    return [[0] + list(costs) for costs in itertools.product((-1, 0, 2), repeat=1)] + [
        [0] + list(costs) for costs in itertools.product((-1, 0, 2), repeat=3)
    ]


class CheapestTest(unittest.TestCase):
    def test_ordinary(self):
        self.assertIs(shows_cheapest(TWO, [4, 9], 2, 10, [4, 6]), False)
        self.assertIs(shows_cheapest(TWO, [4, 9], 3, 8, [2, 6]), True)
        self.assertIs(shows_cheapest(TWO, [4, 9], 3, 8, [4, 4]), True)
        self.assertIs(shows_cheapest(TWO, [1, 2], 0, 3, [1, 2]), True)

    def test_each_one_thing_wrong(self):
        # A share above its price; shares over a group; a sum that is another one; a group that costs another thing.
        self.assertIs(shows_cheapest(TWO, [4, 9], 3, 8, [5, 3]), False)
        self.assertIs(shows_cheapest(TWO, [4, 9], 3, 8, [1, 7]), False)
        self.assertIs(shows_cheapest(TWO, [4, 9], 3, 8, [3, 4]), False)
        self.assertIs(shows_cheapest(TWO, [4, 9], 2, 8, [4, 4]), False)
        self.assertIs(shows_cheapest(TWO, [4, 9], 3, 9, [4, 4]), False)
        self.assertIs(shows_cheapest(TWO, [4, 9], 3, 7, [4, 4]), False)

    def test_word_by_word_of_any_table(self):
        found = 0
        for table in small_tables():
            count = count_of(table)
            for prices in rows_around(count, -1, 1):
                costs = [told_cost(table, prices, group) for group in range(len(table))]
                for shares in rows_around(count, -2, 2):
                    right = told_under(table, shares) and all(a <= b for a, b in zip(shares, prices))
                    for group in range(len(table)):
                        for cost in (sum(shares), costs[group], sum(shares) - 1):
                            due = right and sum(shares) == cost == costs[group]
                            self.assertIs(shows_cheapest(table, prices, group, cost, shares), due)
                            if due:
                                found += 1
                                self.assertEqual(cost, min(costs))
        self.assertGreater(found, 100)

    def test_what_is_told_is_shown(self):
        for seed, table in enumerate(falling_tables() + [long_table(6, 1)]):
            prices = some_row(count_of(table), seed, -9, 9)
            group, cost, dues = cheapest(table, prices)
            self.assertIs(shows_cheapest(table, prices, group, cost, dues), True)
            self.assertIs(shows_cheapest(table, prices, group, cost + 1, dues), False)


class BestTest(unittest.TestCase):
    def test_ordinary(self):
        self.assertIs(shows_best(TWO, [1, 2], 14, [2, 6]), True)
        self.assertIs(shows_best(TWO, [2, 1], 13, [5, 3]), True)
        self.assertIs(shows_best(TWO, [-2, -2], -16, [3, 5]), True)

    def test_each_one_thing_wrong(self):
        # A base that weighs less; another number; shares that are no base; a table that is worth something else.
        self.assertIs(shows_best(TWO, [1, 2], 13, [3, 5]), False)
        self.assertIs(shows_best(TWO, [1, 2], 14, [3, 5]), False)
        self.assertIs(shows_best(TWO, [1, 2], 15, [2, 6]), False)
        self.assertIs(shows_best(TWO, [1, 2], 14, [0, 7]), False)
        self.assertIs(shows_best(TWO, [1, 0], 5, [5, 2]), False)
        self.assertIs(shows_best(TWO, [2, 2], 16, [8, 0]), False)

    def test_word_by_word_of_any_table(self):
        found = 0
        for table in small_tables():
            count = count_of(table)
            rows = rows_around(count, -4, 4)
            bases = [shares for shares in rows if told_base(table, shares)]
            for prices in rows_around(count, -1, 2):
                worth = told_worth(table, prices)
                for shares in rows_around(count, -3, 3):
                    weight = sum(a * b for a, b in zip(shares, prices))
                    for number in {worth, weight, weight + 1}:
                        due = shares in bases and number == weight == worth
                        self.assertIs(shows_best(table, prices, number, shares), due)
                        if due:
                            found += 1
                            self.assertTrue(all(weight_of(base, prices) <= number for base in bases))
        self.assertGreater(found, 100)

    def test_what_is_told_is_shown(self):
        for seed, table in enumerate(falling_tables() + [long_table(6, 1)]):
            prices = some_row(count_of(table), seed, -9, 9)
            shares = best_base(table, prices)
            self.assertIs(shows_best(table, prices, weight_of(shares, prices), shares), True)
            self.assertIs(shows_best(table, prices, weight_of(shares, prices) - 1, shares), False)


class CommonTest(unittest.TestCase):
    def test_ordinary(self):
        self.assertIs(shows_common([0, 1, 9, 10], [0, 9, 2, 11], 3, [1, 2], 1), True)
        self.assertIs(shows_common(TWO, TWO, 8, [4, 4], 3), True)
        self.assertIs(shows_common(TWO, TWO, 8, [4, 4], 0), True)

    def test_each_one_thing_wrong(self):
        # Over the first table; over the second one; another sum; another group; another number.
        self.assertIs(shows_common([0, 1, 9, 10], [0, 9, 2, 11], 3, [2, 1], 1), False)
        self.assertIs(shows_common([0, 9, 2, 11], [0, 1, 9, 10], 3, [2, 1], 2), False)
        self.assertIs(shows_common([0, 1, 9, 10], [0, 9, 2, 11], 3, [1, 1], 1), False)
        self.assertIs(shows_common([0, 1, 9, 10], [0, 9, 2, 11], 3, [1, 2], 2), False)
        self.assertIs(shows_common([0, 1, 9, 10], [0, 9, 2, 11], 4, [1, 2], 1), False)
        self.assertIs(shows_common([0, 1, 9, 10], [0, 9, 2, 11], 2, [1, 2], 1), False)
        self.assertIs(shows_common([0, 1, 9, 10], [0, 9, 2, 11], 2, [1, 1], 1), False)

    def test_word_by_word_of_any_tables(self):
        found = 0
        tables = small_tables()[3::2]
        for one, other in itertools.product(tables, tables):
            rows = [row for row in rows_around(2, -3, 3) if told_under(one, row) and told_under(other, row)]
            for shares in rows_around(2, -2, 2):
                for group in range(4):
                    cost = one[group] + other[3 - group]
                    for number in {cost, sum(shares)}:
                        due = shares in rows and sum(shares) == number == cost
                        self.assertIs(shows_common(one, other, number, shares, group), due)
                        if due:
                            found += 1
                            self.assertEqual(number, max(sum(row) for row in rows))
        self.assertGreater(found, 100)

    def test_what_is_told_is_shown(self):
        for count in range(1, 7):
            for seed in range(4):
                one, other = bent_table(count, seed), bent_table(count, seed + 20)
                shares, group = common(one, other)
                self.assertIs(shows_common(one, other, sum(shares), shares, group), True)
                self.assertIs(shows_common(one, other, sum(shares) + 1, shares, group), False)


class BetweenTest(unittest.TestCase):
    def test_rows(self):
        self.assertIs(shows_between(RISING, TWO, [2, 3]), True)
        self.assertIs(shows_between(RISING, TWO, [1, 4]), True)
        self.assertIs(shows_between(RISING, TWO, [5, 3]), True)
        # Below the low table at one hand, at the other one, at both; above the high one likewise.
        for shares in ([0, 6], [4, 1], [2, 2], [6, 2], [1, 7], [4, 5]):
            self.assertIs(shows_between(RISING, TWO, shares), False, shares)

    def test_bars(self):
        low, high = [0, 5, 5, 5], [0, 4, 5, 6]
        self.assertEqual([shows_bar(low, high, group) for group in range(4)], [False, True, False, False])

    def test_word_by_word_of_any_tables(self):
        for seed in range(60):
            count = seed % 3 + 1
            low, high = any_table(count, seed, -3, 1), any_table(count, seed + 500, -1, 3)
            shown = []
            for shares in rows_around(count, -2, 2):
                given = [gives(shares, hands) for hands in sets_of(count)]
                right = all(least <= gift <= most for least, gift, most in zip(low, given, high))
                self.assertIs(shows_between(low, high, shares), right)
                shown.append(right)
            for group in range(len(low)):
                bar = shows_bar(low, high, group)
                self.assertIs(bar, low[group] > high[group])
                self.assertFalse(bar and any(shown))

    def test_what_is_told_is_shown(self):
        for table in falling_tables() + [long_table(6, 1)]:
            low = mirror(table)
            self.assertIs(shows_between(low, table, between(low, table)[1]), True)


PAPERS = {
    hands: [
        None, ("break", 0, 2 ** hands - 1), ("dues", [0] * hands), ("base", [-HUGE] * hands), ("row", [5] * hands),
        ("group", 0), ("group", 2 ** hands - 1), ("sum",), ("mix", []), ("mix", [(list(range(hands)), 1)]),
        ("mix", [(list(range(hands)), 5), (list(reversed(range(hands))), HUGE)]), ("both", [1] * hands, 0),
        ("bar", 1), ("steps", []), ("steps", [(1, (-3, 2)), (2 ** hands - 1, (4, 1))]), ("steps", [(0, (0, 1))]),
    ]
    for hands in range(1, 7)
}


class MadeForTest(unittest.TestCase):
    def test_papers_of_so_many_hands(self):
        for hands, papers in PAPERS.items():
            for paper in papers:
                self.assertIs(made_for(hands, paper), True, paper)

    def test_rows_too_long_and_too_short(self):
        for hands in range(1, 7):
            for many in [many for many in range(8) if many != hands]:
                for kind in ("dues", "base", "row"):
                    self.assertIs(made_for(hands, (kind, [1] * many)), False)
                self.assertIs(made_for(hands, ("both", [1] * many, 1)), False)

    def test_groups_beyond_the_hands_or_below_nought(self):
        for hands in range(1, 7):
            for group in (-1, -2 ** hands, 2 ** hands, 2 ** hands + 1, HUGE):
                whole = 2 ** hands - 1
                for paper in (
                    ("break", group, 1), ("break", 1, group), ("group", group), ("bar", group),
                    ("both", [1] * hands, group), ("steps", [(group, (1, 1))]),
                    ("steps", [(group, (1, 1)), (whole, (2, 1))]), ("steps", [(whole, (1, 1)), (group, (2, 1))]),
                ):
                    self.assertIs(made_for(hands, paper), False, paper)

    def test_orders_that_are_none(self):
        right = [0, 1, 2]
        for order in ([], [0, 1], [0, 0, 1], [0, 1, 1], [0, 1, 2, 2], [0, 1, 2, 3], [1, 2, 3], [-1, 0, 1]):
            self.assertIs(made_for(3, ("mix", [(order, 1)])), False, order)
            self.assertIs(made_for(3, ("mix", [(right, 1), (order, 1)])), False, order)
            self.assertIs(made_for(3, ("mix", [(order, 1), (right, 1)])), False, order)

    def test_papers_of_other_hands(self):
        for hands, other in itertools.permutations(range(1, 7), 2):
            for paper in PAPERS[other]:
                fits = paper in (None, ("sum",), ("mix", []), ("steps", []), ("steps", [(0, (0, 1))]), ("bar", 1))
                fits = fits or paper == ("group", 0)
                if hands > other and paper is not None and paper[0] in ("break", "group", "steps"):
                    fits = True
                self.assertIs(made_for(hands, paper), fits, paper)

    def test_what_is_no_paper(self):
        for paper in (
            (), "sum", "none", ["sum"], ("none",), ("sums",), ("sum", 1), ("group",), ("group", 1, 1), ("break", 1),
            ("both", 1, [1, 1]), ("both", [1, 1]), ("dues", (1, 1)), ("dues", None), ("dues", [1, "1"]),
            ("dues", [1, True]), ("group", True), ("group", None), ("group", [1]), ("mix", None), ("mix", ([0, 1], 1)),
            ("mix", [[[0, 1], 1]]), ("mix", [([0, 1],)]), ("mix", [([0, 1], "1")]), ("mix", [([0, 1], True)]),
            ("mix", [((0, 1), 1)]), ("mix", [([0, 1], 1, 1)]), ("steps", [(1, 1)]), ("steps", [(1, (1, 0))]),
            ("steps", [(1, (2, 2))]), ("steps", [(1, [1, 2])]), ("steps", [(1, (1, 2), 3)]), ("steps", None), (1, 1),
            ([], 1), 5, True,
        ):
            self.assertIs(made_for(2, paper), False, paper)

    def test_a_broken_table_does_not_matter(self):
        self.assertIsNotNone(told_break(RISING))
        self.assertIs(shows_cheapest(RISING, [1, 1], 0, 2, [1, 1]), True)
        self.assertIs(shows_best(RISING, [1, 1], 5, [2, 3]), False)
        self.assertEqual([gives([1, 2], hands) <= cost for hands, cost in as_costs(RISING).items()], [True] * 4)
        self.assertIs(shows_common(RISING, RISING, 3, [1, 2], 1), True)


if __name__ == "__main__":
    unittest.main()
