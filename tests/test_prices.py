"""[4.1] to [4.4]: prices, what a table is worth at them, and the bases that weigh most."""

import unittest

from groupcost.errors import NotFalling
from groupcost.prices import best_base, break_prices, is_best, price_chain, price_order, weight_of, worth_at
from samples import (
    HUGE, as_costs, bases_of, count_of, falling_tables, gives, many_tables, mask_of, rows_around, set_of, some_row,
    told_base, told_break,
)

THREE = [0, 3, 5, 7, 4, 6, 8, 9]
RISING = [0, 1, 3, 5, 2, 4, 6, 9]


def many_prices():
    """Rows of prices: alike, falling, rising, below nought, some alike, and of one hand alone."""
    rows = [[0], [7], [-7]]
    for count in range(2, 7):
        falling = [5 - 2 * hand for hand in range(count)]
        rows += [[4] * count, [0] * count, [-4] * count, falling, falling[::-1], [-9 - hand for hand in range(count)]]
        rows += [some_row(count, seed, -2, 2) for seed in range(4)] + [some_row(count, seed) for seed in range(3)]
    return rows


def told_worth(table, prices):
    """[4.2] by the price levels: each level's hands cost, times how far it lies above the next one."""
    costs = as_costs(table)
    levels = sorted(set(prices), reverse=True)
    worth = 0
    for place, level in enumerate(levels):
        lower = levels[place + 1] if place + 1 < len(levels) else 0
        worth += (level - lower) * costs[frozenset(hand for hand in range(len(prices)) if prices[hand] >= level)]
    return worth


class OrderTest(unittest.TestCase):
    def test_ordinary(self):
        self.assertEqual(price_order([5]), [0])
        self.assertEqual(price_order([4, 4, 4]), [0, 1, 2])
        self.assertEqual(price_order([7, 5, 1]), [0, 1, 2])
        self.assertEqual(price_order([1, 5, 7]), [2, 1, 0])
        self.assertEqual(price_order([-1, -5, 0, -5]), [2, 0, 1, 3])
        self.assertEqual(price_order([2, 9, 2, 9, 2, 9]), [1, 3, 5, 0, 2, 4])
        self.assertEqual(price_order([HUGE, HUGE + 1, -HUGE]), [1, 0, 2])

    def test_word_by_word(self):
        for prices in many_prices():
            order = price_order(prices)
            self.assertEqual(sorted(order), list(range(len(prices))))
            for one, other in zip(order, order[1:]):
                self.assertTrue(prices[one] > prices[other] or prices[one] == prices[other] and one < other)


class ChainTest(unittest.TestCase):
    def test_ordinary(self):
        self.assertEqual(price_chain([5]), [(1, 5)])
        self.assertEqual(price_chain([-5]), [(1, -5)])
        self.assertEqual(price_chain([0]), [(1, 0)])
        self.assertEqual(price_chain([4, 4, 4]), [(0b111, 4)])
        self.assertEqual(price_chain([7, 5, 1]), [(0b001, 2), (0b011, 4), (0b111, 1)])
        self.assertEqual(price_chain([1, 5, 7]), [(0b100, 2), (0b110, 4), (0b111, 1)])
        self.assertEqual(price_chain([-1, -5, 0, -5]), [(0b0100, 1), (0b0101, 4), (0b1111, -5)])
        self.assertEqual(price_chain([0, 3, 0]), [(0b010, 3), (0b111, 0)])
        self.assertEqual(price_chain([HUGE, -HUGE]), [(0b01, 2 * HUGE), (0b11, -HUGE)])

    def test_a_hands_price_is_the_sum_of_the_steps_of_the_groups_that_have_it(self):
        for prices in many_prices():
            chain = price_chain(prices)
            self.assertEqual(len(chain), len(set(prices)))
            for hand, price in enumerate(prices):
                self.assertEqual(sum(step for group, step in chain if hand in set_of(group)), price)
            self.assertTrue(all(step > 0 for _, step in chain[:-1]))
            self.assertEqual(chain[-1], (2 ** len(prices) - 1, min(prices)))
            for (one, _), (other, _) in zip(chain, chain[1:]):
                self.assertTrue(set_of(one) < set_of(other))

    def test_each_group_has_all_hands_of_no_lesser_price(self):
        for prices in many_prices():
            levels = sorted(set(prices), reverse=True)
            groups = [mask_of(hand for hand in range(len(prices)) if prices[hand] >= level) for level in levels]
            self.assertEqual([group for group, _ in price_chain(prices)], groups)


class WorthTest(unittest.TestCase):
    def test_ordinary(self):
        self.assertEqual(worth_at([0, 6], [5]), 30)
        self.assertEqual(worth_at([0, 6], [-5]), -30)
        self.assertEqual(worth_at(THREE, [7, 5, 1]), 2 * 3 + 4 * 7 + 9)
        self.assertEqual(worth_at(THREE, [1, 5, 7]), 2 * 4 + 4 * 8 + 9)
        self.assertEqual(worth_at(THREE, [2, 2, 2]), 18)
        self.assertEqual(worth_at(THREE, [0, 0, 0]), 0)
        self.assertEqual(worth_at(THREE, [0, 1, -1]), 5 + 7 - 9)
        self.assertEqual(worth_at([0, HUGE, -HUGE, 1], [HUGE, -HUGE]), 2 * HUGE * HUGE - HUGE)

    def test_at_1_for_a_group_and_0_for_the_others_it_is_what_the_group_costs(self):
        for table in many_tables()[::5]:
            for hands, cost in as_costs(table).items():
                self.assertEqual(worth_at(table, [1 if hand in hands else 0 for hand in range(count_of(table))]), cost)

    def test_word_by_word(self):
        for table in many_tables()[::3]:
            for prices in many_prices():
                if len(prices) == count_of(table):
                    self.assertEqual(worth_at(table, prices), told_worth(table, prices))

    def test_weight(self):
        self.assertEqual(weight_of([5], [3]), 15)
        self.assertEqual(weight_of([5, -2, 0], [3, 4, 9]), 7)
        self.assertEqual(weight_of([0, 0], [3, 4]), 0)
        self.assertEqual(weight_of([HUGE, HUGE], [HUGE, -1]), HUGE * HUGE - HUGE)
        self.assertEqual(weight_of([1, 2, 3, 4, 5, 6], [6, 5, 4, 3, 2, 1]), 56)


class BestTest(unittest.TestCase):
    def test_ordinary(self):
        self.assertEqual(best_base(THREE, [7, 5, 1]), [3, 4, 2])
        self.assertEqual(best_base(THREE, [1, 5, 7]), [1, 4, 4])
        self.assertEqual(best_base(THREE, [2, 2, 2]), [3, 4, 2])
        self.assertEqual(best_base([0, -6], [-3]), [-6])
        self.assertEqual(best_base([0, HUGE, -HUGE, -1], [-1, 0]), [HUGE - 1, -HUGE])

    def test_it_weighs_what_the_table_is_worth(self):
        for table in falling_tables():
            for prices in many_prices():
                if len(prices) == count_of(table):
                    shares = best_base(table, prices)
                    self.assertTrue(told_base(table, shares))
                    self.assertEqual(weight_of(shares, prices), told_worth(table, prices))
                    self.assertIs(is_best(table, prices, shares), True)

    def test_a_table_that_does_not_fall_is_refused(self):
        for table in many_tables():
            prices = some_row(count_of(table), 3)
            if told_break(table) is None:
                self.assertEqual(sum(best_base(table, prices)), table[-1])
            else:
                with self.assertRaises(NotFalling):
                    best_base(table, prices)

    def test_is_best(self):
        self.assertIs(is_best(THREE, [7, 5, 1], [3, 4, 2]), True)
        self.assertIs(is_best(THREE, [1, 5, 7], [3, 4, 2]), False)
        self.assertIs(is_best([0, 5], [-3], [5]), True)

    def test_a_base_with_a_group_of_the_chain_that_is_not_full(self):
        # Hand 0 is full alone; the middle group of hands 0 and 2 isn't.
        self.assertIs(is_best(THREE, [7, 1, 5], [3, 4, 2]), False)
        self.assertIs(is_best(THREE, [7, 1, 5], [3, 3, 3]), True)
        # The first group of the chain is not full.
        self.assertIs(is_best(THREE, [1, 7, 1], [3, 4, 2]), False)
        self.assertIs(is_best(THREE, [1, 7, 1], [2, 5, 2]), True)

    def test_no_base(self):
        # Of the sum of a base but over hand 0; under the table but of a lesser sum.
        self.assertIs(is_best(THREE, [1, 1, 1], [4, 4, 1]), False)
        self.assertIs(is_best(THREE, [1, 1, 1], [3, 4, 1]), False)
        self.assertIs(is_best([0, 5], [3], [4]), False)
        self.assertIs(is_best([0, 5], [3], [6]), False)
        # Each group of the chain is given what it costs, yet hand 1 is given more than it costs.
        self.assertIs(is_best([0, 1, 1, 9], [2, 1], [1, 8]), False)

    def check_all_bases(self, table, prices):
        worth = told_worth(table, prices)
        costs = as_costs(table)
        chain = [set_of(group) for group, _ in price_chain(prices)]
        for shares in bases_of(table):
            self.assertLessEqual(weight_of(shares, prices), worth)
            full = all(gives(shares, hands) == costs[hands] for hands in chain)
            self.assertIs(is_best(table, prices, shares), full)
            self.assertEqual(weight_of(shares, prices) == worth, full)

    def test_no_base_weighs_more_and_one_weighs_as_much_just_where_the_chain_is_full(self):
        tables = [table for table in falling_tables() + many_tables()[::3] if len(table) <= 8]
        for table in tables:
            for prices in many_prices():
                if len(prices) == count_of(table):
                    self.check_all_bases(table, prices)


class BreakTest(unittest.TestCase):
    def test_ordinary(self):
        self.assertEqual(break_prices([0, 1, 2, 4]), ([1, 0], [0, 1]))
        self.assertEqual(break_prices([0, 5, 5, 8, 5, 8, 8, 12]), ([1, 1, 0], [1, 0, 1]))
        self.assertEqual(break_prices(RISING), ([1, 0, 0], [0, 1, 0]))

    def test_of_a_table_that_falls(self):
        self.assertIsNone(break_prices([0, 5]))
        self.assertIsNone(break_prices(THREE))
        for table in falling_tables():
            self.assertIsNone(break_prices(table))

    def test_the_two_rows_show_it(self):
        for table in many_tables():
            found = told_break(table)
            if found is None:
                self.assertIsNone(break_prices(table))
                continue
            group, i, j = found
            one, other = break_prices(table)
            self.assertEqual(one, [1 if hand in set_of(group) | {i} else 0 for hand in range(count_of(table))])
            self.assertEqual(other, [1 if hand in set_of(group) | {j} else 0 for hand in range(count_of(table))])
            together = [a + b for a, b in zip(one, other)]
            self.assertGreater(worth_at(table, together), worth_at(table, one) + worth_at(table, other))

    def test_a_table_that_falls_is_worth_no_more_at_the_sum_of_two_rows(self):
        for table in falling_tables():
            rows = [prices for prices in many_prices() if len(prices) == count_of(table)]
            for one in rows:
                for other in rows[::3]:
                    together = [a + b for a, b in zip(one, other)]
                    self.assertLessEqual(worth_at(table, together), worth_at(table, one) + worth_at(table, other))

    def test_all_small_rows_of_prices(self):
        for table in ([0, 2, 1, 2], [0, 2, 1, 4], [0, -1, -1, -3]):
            rows = rows_around(2, -2, 2)
            shown = any(
                worth_at(table, [a + b for a, b in zip(one, other)]) > worth_at(table, one) + worth_at(table, other)
                for one in rows for other in rows
            )
            self.assertEqual(shown, break_prices(table) is not None)


if __name__ == "__main__":
    unittest.main()
